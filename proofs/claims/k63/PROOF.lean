import PyProof.Rows.All
import Wide.All
import OpenK.AllK
import Wide.FinOn
import PyProof.EqAt
import PyProof.EqKinds
import PyProof.TupleCall
import PyProof.StationsW
import PyProof.ExcArgs
import PyProof.Seq
import PyProof.TupleIter
import PyProof.RangeIter
import PyProof.WalkInts
import PyProof.SumWalkG
import PyProof.ListRange
import PyProof.Rows.Range3
import OpenK.KDescr
import PyProof.ExcAttrAll.ValueError
import PyProof.Draws
import PyProof.EnumFor
import PyProof.EnumMake
import PyProof.LayNew
import PyProof.Rows.EnumRows
import PyProof.MinMaxWalk
import Lean
import PySem.Challenge.RW_cheapcovers_k63_covers_led_back
set_option Elab.async false
set_option linter.all false
set_option maxRecDepth 100000
set_option maxHeartbeats 8000000
set_option compiler.extract_closed false
set_option bootstrap.genMatcherCode false
set_option genSizeOfSpec false
section
open PySem PySem.Spec PyProof PyProof.Rows
abbrev qaa := @List.getElem?_append_right
abbrev qab := @Array.getElem?_eq_some_iff
abbrev qac := @List.getElem?_eq_some_iff
abbrev qad := @List.getElem?_append_left
abbrev qaf := @List.getElem?_eq_getElem
abbrev qag := @Heap.get?_push_of_some
abbrev qah := @Heap.get?_update_other
abbrev qai := @List.getElem?_set_self
abbrev qak := @List.mem_append_right
abbrev qal := @Heap.get?_update_self
abbrev qan := @List.mem_cons_of_mem
abbrev qao := @List.getElem?_set_ne
abbrev qap := @Around.under_plainId
abbrev qaq := @List.pairwise_append
abbrev qar := @Heap.get?_push_size
abbrev qas := @Array.length_toList
abbrev qat := @List.filterMap_cons
abbrev qau := @List.mem_cons_self
abbrev qav := @List.length_append
abbrev qaw := @Nat.lt_of_lt_of_le
abbrev qax := @Bool.false_eq_true
abbrev qay := @List.pairwise_cons
abbrev qaA := @List.size_toArray
abbrev qaB := @Int.toNat_natCast
abbrev qaC := @wpAny_newObj_type
abbrev qaD := @decide_eq_true_eq
abbrev qaE := @List.length_cons
abbrev qaF := @List.not_mem_nil
abbrev qaG := @Bool.and_eq_true
abbrev qaH := @List.length_map
abbrev qaI := @List.length_set
abbrev qaJ := @List.length_nil
abbrev qaK := @List.mem_append
abbrev qaL := @Heap.size_push
abbrev qaM := @List.map_cons
abbrev qaN := @Nat.lt_irrefl
abbrev qaO := @wpAny_holding
abbrev qaP := @List.mem_cons
abbrev qaQ := @Heap.lt_size
abbrev qaR := @Nat.ne_of_lt
abbrev qaS := @Nat.le_trans
abbrev qaT := @List.map_map
abbrev qaU := @List.mem_map
abbrev qaV := @Nat.le_refl
abbrev qaW := @wpAny_bind
abbrev qaX := @wpAny_pure
abbrev qaZ := @wpAny_mono
abbrev qa0 := @False.elim
abbrev qa4 := @if_pos
abbrev qa5 := @if_neg
end
noncomputable def PySem.W.Fast.tw11044343334121577499:Nat:=0
noncomputable def PySem.W.Fast.tw1557311816016739828:Nat:=0
noncomputable def PySem.W.Fast.tw724924597505012489:Nat:=0
noncomputable def PySem.W.Fast.tw16951694212574611094:Nat:=0
noncomputable def PySem.W.Fast.tw16107870087659362105:Nat:=0
noncomputable def PySem.W.Fast.tw11923757115755686155:Nat:=0
noncomputable def PySem.W.Fast.tw10747414112953083344:Nat:=0
noncomputable def PySem.W.Fast.tw14128975341392105981:Nat:=0
noncomputable def PySem.W.Fast.tw14885101840220536908:Nat:=0
noncomputable def PySem.W.Fast.tw13799675577958169445:Nat:=0
noncomputable def PySem.W.Fast.tw18127165367852643906:Nat:=0
noncomputable def PySem.W.Fast.tw378685697902716087:Nat:=0
noncomputable def PySem.W.Fast.tw12869326514168756240:Nat:=0
noncomputable def PySem.W.Fast.tw4888980898187139772:Nat:=0
noncomputable def PySem.W.Fast.tw13111484448177546090:Nat:=0
noncomputable def PySem.W.Fast.tw15166394517605904083:Nat:=0
namespace L3
open PySem
def zic (h:Heap) (e:Addr) (cls head:Value):Prop:= ∃ ob vs,h.get? e=some ob/\ob.cls=cls/\ob.dict=none/\ob.data= .fields vs/\vs[2]? = some .none/\vs[1]? = some head
def zuT (h B:Heap) (e:Addr) (head fl:Value):Prop:= ∃ T ot ts,head= .ref T/\B.get? T=none/\T≠e/\h.get? T=some ot/\ot.data= .fields ts/\ts[3]? = some fl
structure Fly (B:Heap) (l:List Env) (e:Addr) (cls fl:Value) (h:Heap):Prop where
 stays:B.StaysIn h
 new:B.get? e=none
 frames:h.FunFrames B l
 exc: ∃ head,zic h e cls head/\zuT h B e head fl
theorem zmB (o:Obj) (f):(o.mapFields f).dict=o.dict:=by
 obtain ⟨c,d,t,z⟩:=o
 cases t<;>rfl
section
variable {M:Model} {A:Around} {E:Value->Shared->Prop} {s:Shared} {B:Heap} {env:Env} {outer l:List Env} {L e:Addr} {cls head fl:Value}
theorem zi3 {hd0:Value} {hadNext:Bool} {Q:Unit->Shared->Prop} (hfr:A.frames=some (env::outer)) (hl:s.heap.FunFrames B (env::outer)) (hf:env.frame=some L) (hx:zic s.heap e cls head)
  (hkb:B.StaysIn s.heap) (hen:B.get? e=none) (q: ∀ h',Fly B (env::outer) e cls (rawInt L) h'->s.heap.UpToSlots h'->Q () {s with heap:=h'}):
  wpAny M A (do let a<-frameOf env;let pl<-entryPlaceOf L hadNext;let b<-EntryCells.newEntry hd0 a .none (rawInt L) .none pl;setField (.ref e) 1 b) Q E s:=by
 obtain ⟨ob,vs,h1,h2,h3,h4,h5,h6⟩:=hx
 have hsz:1<vs.size:=(qab.mp h6).1
 have nfr:e∉(env::outer).filterMap (·.frame):=fun z=>by
  obtain ⟨_,o,ho,hn⟩:=hl.mem z
  rw [h1] at ho
  cases ho
  exact hn vs h4
 refine qaW (wpAny_frameOf_fun hfr hl hf fun g sg=> ?_)
 refine qaW (wpAny_entryPlaceOf fun pl hpl=> ?_)
 unfold EntryCells.newEntry newFields
 refine qaW (qaC ?_ (hpl.sizeOk5 _ _ _ _ _))
 have e1:g.get? e=some ob:=(sg.2.1 e nfr).trans h1
 have kb:B.StaysIn g:=fun b o z=>(sg.2.1 b fun w=>by rw [(hl.mem w).1] at z;cases z).trans (hkb b o z)
 generalize hob:({cls:= .type "traceback",dict:=none,data:= .fields ([hd0,.ref L,.none,rawInt L,.none]++(if pl.isEmpty then List.replicate 6 Value.none else pl)).toArray}:Obj)=tb
 have e2:(g.push tb).get? e=some ob:=qag _ e1
 have ne:g.objs.size≠e:=Nat.ne_of_gt (qaQ e1)
 have d3:=Obj.data_mapFields h4 (·.setIfInBounds 1 (Value.ref g.objs.size))
 have e3:=qal (Obj.mapFields (·.setIfInBounds 1 (Value.ref g.objs.size))) e2 (Obj.isFreed_of_fields d3)
 have ft:tb.isFreed=false:=by rw [<- hob];rfl
 have t3:((g.push tb).update e (Obj.mapFields (·.setIfInBounds 1 (Value.ref g.objs.size)))).get? g.objs.size=some tb:=(qah _ _ (Ne.symm ne)).trans (qar g ft)
 have stay: ∀ b o,b≠e->g.get? b=some o->((g.push tb).update e (Obj.mapFields (·.setIfInBounds 1 (Value.ref g.objs.size)))).get? b=some o:=fun b o hb z=>by
  rw [qah _ _ (Ne.symm hb)]
  exact qag _ z
 have nrec: ∀ b o,s.heap.get? b=some o->(∀ ws,o.data≠ .fields ws)->b≠e:=fun b o z hn w=>by
  rw [w,h1] at z
  cases z
  exact hn vs h4
 have ht: ∃ ts,tb.data= .fields ts/\ts[3]? = some (rawInt L):=⟨_,by rw [<- hob],by rcases hpl with rfl | ⟨_,_,_,_,_,_,_,rfl⟩<;>simp⟩
 obtain ⟨ts,ht1,ht2⟩:=ht
 refine wpAny_setField e2 h4 hsz (q _ ⟨fun b o z=>stay b o (fun w=>by rw [w,hen] at z;cases z) (kb b o z),hen,hl.of_keeps fun b o z hn=> ?_,.ref g.objs.size,⟨_,_,e3,(Obj.cls_mapFields _ _).trans h2,(zmB _ _).trans h3,d3,?_,?_⟩,g.objs.size,tb,ts,rfl,kb.fresh,ne,t3,ht1,ht2⟩ fun b o z hn=> ?_)
 ·obtain ⟨sl,hs⟩:=sg.2.2 b o z
  exact ⟨_,stay b _ (nrec b o z hn) hs,rfl⟩
 ·rw [Array.getElem?_setIfInBounds_ne (by decide)]
  exact h5
 ·simp [hsz]
 ·obtain ⟨sl,hs⟩:=sg.2.2 b o z
  exact ⟨sl,stay b _ (nrec b o z hn) hs⟩
theorem zjG {Q:Unit->Shared->Prop} (hfr:A.frames=some (env::outer)) (hl:s.heap.FunFrames B (env::outer)) (hf:env.frame=some L) (hx:zic s.heap e cls .none)
  (hkb:B.StaysIn s.heap) (hen:B.get? e=none) (q: ∀ h',Fly B (env::outer) e cls (rawInt L) h'->s.heap.UpToSlots h'->Q () {s with heap:=h'}):wpAny M A (noteFrame (.ref e) env) Q E s:=by
 obtain ⟨ob,vs,h1,h2,h3,h4,h5,h6⟩:=id hx
 unfold noteFrame
 simp only [hf]
 refine qaW (wpAny_field h1 h4 h6 ?_)
 rw [qa5 (by decide)]
 exact zi3 hfr hl hf hx hkb hen q
theorem zlx {Q:Unit->Shared->Prop} (hfr:A.frames=some (env::outer)) (hf:env.frame=some L) (y:Fly B (env::outer) e cls .none s.heap)
  (q: ∀ h',Fly B (env::outer) e cls (rawInt L) h'->s.heap.UpToSlots h'->Q () {s with heap:=h'}):wpAny M A (noteFrame (.ref e) env) Q E s:=by
 obtain ⟨hkb,hen,hl,hd,⟨ob,vs,h1,h2,h3,h4,h5,h6⟩,T,ot,ts,rfl,t1,t2,t3,t4,t5⟩:=y
 unfold noteFrame
 simp only [hf]
 refine qaW (wpAny_field h1 h4 h6 ?_)
 rw [qa4 (show (Value.ref T != Value.none)=true by simp)]
 refine qaW (wpAny_field t3 t4 t5 ?_)
 rw [qa5 (show ¬(Value.none==rawInt L)=true by simp [rawInt])]
 refine qaW (wpAny_setField t3 t4 (qab.mp t5).1 ?_)
 have oth: ∀ b,b≠T->(s.heap.update T (Obj.mapFields (·.setIfInBounds 3 Value.none))).get? b=s.heap.get? b:=fun b hb=>qah _ _ (Ne.symm hb)
 have nrec: ∀ b o,s.heap.get? b=some o->(∀ ws,o.data≠ .fields ws)->b≠T:=fun b o z hn w=>by
  rw [w,t3] at z
  cases z
  exact hn ts t4
 refine zi3 hfr (hl.of_keeps fun b o z hn=>⟨o,(oth b (nrec b o z hn)).trans z,rfl⟩) hf ⟨ob,vs,(oth e (Ne.symm t2)).trans h1,h2,h3,h4,h5,h6⟩ (fun b o z=>(oth b fun w=>by rw [w,t1] at z;cases z).trans (hkb b o z)) hen fun h' y u=> ?_
 exact q h' y fun b o z hn=>u b o ((oth b (nrec b o z hn)).trans z) hn
theorem zeQ {Q:Unit->Shared->Prop} (y:Fly B l e cls fl s.heap) (q: ∀ h',Fly B l e cls .none h'->(∀ b o,s.heap.get? b=some o->(∀ ws,o.data≠ .fields ws)->h'.get? b=some o)->Q () {s with heap:=h'}):
  wpAny M A (setFlight (.ref e) none) Q E s:=by
 obtain ⟨hkb,hen,hl,hd,⟨ob,vs,h1,h2,h3,h4,h5,h6⟩,T,ot,ts,rfl,t1,t2,t3,t4,t5⟩:=y
 have hsz:=(qab.mp t5).1
 have oth: ∀ b,b≠T->(s.heap.update T (Obj.mapFields (·.setIfInBounds 3 ((none:Option Addr).elim Value.none fun f=>rawInt f)))).get? b=s.heap.get? b:=fun b hb=>qah _ _ (Ne.symm hb)
 have nrec: ∀ b o,s.heap.get? b=some o->(∀ ws,o.data≠ .fields ws)->b≠T:=fun b o z hn w=>by
  rw [w,t3] at z
  cases z
  exact hn ts t4
 unfold setFlight
 refine qaW (wpAny_field h1 h4 h6 ?_)
 rw [qa4 (show (Value.ref T != Value.none)=true by simp)]
 refine wpAny_setField t3 t4 hsz (q _ ⟨fun b o z=>(oth b fun w=>by rw [w,t1] at z;cases z).trans (hkb b o z),hen,hl.of_keeps fun b o z hn=>⟨o,(oth b (nrec b o z hn)).trans z,rfl⟩,
   .ref T,⟨ob,vs,(oth e (Ne.symm t2)).trans h1,h2,h3,h4,h5,h6⟩,T,_,_,rfl,t1,t2,qal _ t3 (Obj.isFreed_of_fields (Obj.data_mapFields t4 _)),Obj.data_mapFields t4 _,by simp [hsz]⟩ fun b o z hn=>(oth b (nrec b o z hn)).trans z)
theorem Fly.tail {h:Heap} (y:Fly B (env::outer) e cls fl h):Fly B outer e cls fl h:=⟨y.stays,y.new,y.frames.2.2,y.exc⟩
theorem ziN {Q:Unit->Shared->Prop} (hfr:A.frames=some (env::outer)) (hl:s.heap.FunFrames B (env::outer)) (hf:env.frame=some L) (hx:zic s.heap e cls .none)
  (hkb:B.StaysIn s.heap) (hen:B.get? e=none) (q: ∀ h',Fly B outer e cls .none h'->s.heap.UpToSlots h'->Q () {s with heap:=h'}):wpAny M A (leaving env (.ref e)) Q E s:=by
 unfold leaving
 refine qaW (zjG hfr hl hf hx hkb hen fun h1 y1 u1=> ?_)
 refine zeQ (s:={s with heap:=h1}) y1 fun h2 y2 k2=>q h2 y2.tail (u1.trans fun b o z hn=>⟨o.slots,k2 b o z hn⟩)
theorem zmC {Q:Unit->Shared->Prop} (hfr:A.frames=some (env::outer)) (hf:env.frame=some L) (y:Fly B (env::outer) e cls .none s.heap)
  (q: ∀ h',Fly B outer e cls .none h'->s.heap.UpToSlots h'->Q () {s with heap:=h'}):wpAny M A (leaving env (.ref e)) Q E s:=by
 unfold leaving
 refine qaW (zlx hfr hf y fun h1 y1 u1=> ?_)
 refine zeQ (s:={s with heap:=h1}) y1 fun h2 y2 k2=>q h2 y2.tail (u1.trans fun b o z hn=>⟨o.slots,k2 b o z hn⟩)
theorem zng {h h':Heap} {args:List Value} (x:Heap.MadeExcOf h h' e cls args):zic h' e cls .none:=by
 obtain ⟨t,h1,_,_⟩:=x.there
 exact ⟨_,_,h1,rfl,rfl,rfl,rfl,rfl⟩
end
theorem zgC:entryFor table "proto.unchain"=some Builtin.«proto.unchain» := entryFor_of_tree (by kernel_rfl)
section
variable {prog:Program} {w:World} {A:Around} {E:Value->Shared->Prop} {s:Shared}
theorem zcZ {α:Type} {a h:Addr} {o:Obj} {us:Array Value} {cls head:Value} {Q:α->Shared->Prop} (hh:A.handled=some (.ref h)) (hx:zic s.heap h cls head) (ho:s.heap.get? a=some o) (hd:o.data= .fields us) (hz:2<us.size) (hne:h≠a)
  (q:E (.ref a) {s with heap:=s.heap.update a (Obj.mapFields (·.setIfInBounds 2 (.ref h)))}):wpAny (model prog w) A (raiseNew (.ref a):Sem α) Q E s:=by
 obtain ⟨ob,vs,h1,h2,h3,h4,h5,h6⟩:=hx
 unfold raiseNew
 refine qaW (wpAny_handled ?_)
 rw [hh]
 dsimp only
 rw [qa4 (show (Value.ref h != Value.ref a)=true by simp [hne])]
 refine qaW (qaO (wpAny_runValue (codeAny_builtin zgC ?_)))
 unfold Builtin.«proto.unchain»
 refine qaW (wpAny_field h1 h4 h5 ?_)
 rw [qa4 (show (Value.none==Value.none)=true from rfl)]
 refine qaW (qaX (qaX ?_))
 refine qaW ?_
 obtain ⟨c,d,dt,sl⟩:=o
 dsimp only at hd
 subst hd
 unfold updateField
 refine qaW (wpAny_load ho ?_)
 dsimp only
 rw [qa4 hz]
 exact wpAny_update ho (wpAny_throw q)
def zkg (A:Around) (h:Heap):Prop:=A.handled=none\/ ∃ a cls head,A.handled=some (.ref a)/\zic h a cls head
theorem znF {it l:Addr} {i:Nat} {items:Array Value} {Q:Option Value->Shared->Prop} (hh:zkg A s.heap) (hit:s.heap.IsListIter it l i) (hl:s.heap.IsList l items) (hx:items[i]? = none)
  (k: ∀ h',Heap.ExtBut it s.heap h'->Q none {s with heap:=h'}):wpAny (model prog w) A (pyNext (.ref it)) Q E s:=by
 rcases hh with hh | ⟨ha,cls,head,hh,hX⟩
 ·exact wpAny_pyNext_list_end hh hit hl hx k
 obtain ⟨o,h1,h2,h3⟩:=id hit
 obtain ⟨ol,l1,_,nl,l2⟩:=hl
 unfold pyNext
 refine qaW (wpAny_attempt (wpAny_callSpecial?_slot (name:=Str.ofString "__next__") hit.typeIs slot_listiter_next (wpAny_call_entry slot_listiter_next hit.typeIs entry_listiter_next ?_ (args_listiter_next _))))
 show wpAny _ _ (field (.ref it) 0>>=_) _ _ s
 refine qaW (wpAny_field h1 h3 (x:= .ref l) rfl ?_)
 show wpAny _ _ (if (Value.ref l==Value.none)=true then _ else _) _ _ s
 rw [qa5 (show ¬(Value.ref l==Value.none)=true from nofun)]
 show wpAny _ _ (field (.ref it) 1>>=_) _ _ s
 refine qaW (wpAny_field h1 h3 (x:= .int i 0) rfl ?_)
 show wpAny _ _ (seqItems? (.ref l)>>=_) _ _ s
 refine qaW (wpAny_seqItems l1 l2 ?_)
 simp only [qaB,hx]
 refine qaW (wpAny_rule (qaW (wpAny_setField h1 h3 (by simp) ?_)))
 have nit:ha≠it:=fun z=>by
  subst z
  obtain ⟨ob,vs,x1,_,_,x4,x5,x6⟩:=hX
  rw [h1] at x1
  cases x1
  rw [h3] at x4
  cases x4
  simp at x5
 have hX1:zic (s.heap.update it (Obj.mapFields (·.setIfInBounds 0 Value.none))) ha cls head:=by
  obtain ⟨ob,vs,x1,x2⟩:=hX
  exact ⟨ob,vs,(qah _ _ (Ne.symm nit)).trans x1,x2⟩
 show wpAny _ _ (newExc (.type "StopIteration") []>>=_) _ _ _
 refine qaW ?_
 simp only [newExc,newTuple]
 refine qaW (qaC ?_ (by size_fits))
 refine qaW (m:=firstArgMember _ _) (wpAny_of_eq (a:=Value.none) (by first | rfl | (simp only [firstArgMember];rfl)) ?_)
 refine qaC ?_ (by size_fits)
 obtain ⟨ob,vs,x1,x2⟩:=hX1
 have y1:=qag {cls:= .type "tuple",dict:=none,data:= .seq [].toArray} x1
 refine zcZ (h:=ha) (cls:=cls) (head:=head) hh ⟨ob,vs,qag _ y1,x2⟩ (qar _ rfl) rfl (by simp;omega) (qaR (qaQ y1)) ?_
 refine qaW (wpAny_isInstance (T:="StopIteration") (b:=true) ⟨_,qal _ (qar _ rfl) rfl,rfl⟩ isSubtype_stop ?_)
 refine qaX (k _ fun b o hb z=> ?_)
 have z1:(s.heap.update it (Obj.mapFields (·.setIfInBounds 0 Value.none))).get? b=some o:=(qah _ _ (Ne.symm hb)).trans z
 have z2:=qag {cls:= .type "tuple",dict:=none,data:= .seq [].toArray} z1
 rw [qah _ _ (Nat.ne_of_gt (qaQ z2))]
 exact qag _ z2
theorem zlH {it l:Addr} {i:Nat} {items:Array Value} {Q:Option Value->Shared->Prop} (hh:zkg A s.heap) (hit:s.heap.IsTupleIter it l i) (hl:s.heap.IsTuple l items) (hx:items[i]? = none)
  (k: ∀ h',Heap.ExtBut it s.heap h'->Q none {s with heap:=h'}):wpAny (model prog w) A (pyNext (.ref it)) Q E s:=by
 rcases hh with hh | ⟨ha,cls,head,hh,hX⟩
 ·exact wpAny_pyNext_tuple_end hh hit hl hx k
 obtain ⟨o,h1,h2,h3⟩:=id hit
 obtain ⟨ol,l1,_,nl,l2⟩:=hl
 unfold pyNext
 refine qaW (wpAny_attempt (wpAny_callSpecial?_slot (name:=Str.ofString "__next__") hit.typeIs F.slot_tuple_iterator_next (wpAny_call_entry F.slot_tuple_iterator_next hit.typeIs F.entry_tuple_iterator_next ?_ (F.args_tuple_iterator_next_1 _))))
 show wpAny _ _ (field (.ref it) 0>>=_) _ _ s
 refine qaW (wpAny_field h1 h3 (x:= .ref l) rfl ?_)
 show wpAny _ _ (if (Value.ref l==Value.none)=true then _ else _) _ _ s
 rw [qa5 (show ¬(Value.ref l==Value.none)=true from nofun)]
 show wpAny _ _ (field (.ref it) 1>>=_) _ _ s
 refine qaW (wpAny_field h1 h3 (x:= .int i 0) rfl ?_)
 show wpAny _ _ (seqItems? (.ref l)>>=_) _ _ s
 refine qaW (wpAny_seqItems l1 l2 ?_)
 simp only [qaB,hx]
 refine qaW (wpAny_rule (qaW (wpAny_setField h1 h3 (by simp) ?_)))
 have nit:ha≠it:=fun z=>by
  subst z
  obtain ⟨ob,vs,x1,_,_,x4,x5,x6⟩:=hX
  rw [h1] at x1
  cases x1
  rw [h3] at x4
  cases x4
  simp at x5
 have hX1:zic (s.heap.update it (Obj.mapFields (·.setIfInBounds 0 Value.none))) ha cls head:=by
  obtain ⟨ob,vs,x1,x2⟩:=hX
  exact ⟨ob,vs,(qah _ _ (Ne.symm nit)).trans x1,x2⟩
 show wpAny _ _ (newExc (.type "StopIteration") []>>=_) _ _ _
 refine qaW ?_
 simp only [newExc,newTuple]
 refine qaW (qaC ?_ (by size_fits))
 refine qaW (m:=firstArgMember _ _) (wpAny_of_eq (a:=Value.none) (by first | rfl | (simp only [firstArgMember];rfl)) ?_)
 refine qaC ?_ (by size_fits)
 obtain ⟨ob,vs,x1,x2⟩:=hX1
 have y1:=qag {cls:= .type "tuple",dict:=none,data:= .seq [].toArray} x1
 refine zcZ (h:=ha) (cls:=cls) (head:=head) hh ⟨ob,vs,qag _ y1,x2⟩ (qar _ rfl) rfl (by simp;omega) (qaR (qaQ y1)) ?_
 refine qaW (wpAny_isInstance (T:="StopIteration") (b:=true) ⟨_,qal _ (qar _ rfl) rfl,rfl⟩ isSubtype_stop ?_)
 refine qaX (k _ fun b o hb z=> ?_)
 have z1:(s.heap.update it (Obj.mapFields (·.setIfInBounds 0 Value.none))).get? b=some o:=(qah _ _ (Ne.symm hb)).trans z
 have z2:=qag {cls:= .type "tuple",dict:=none,data:= .seq [].toArray} z1
 rw [qah _ _ (Nat.ne_of_gt (qaQ z2))]
 exact qag _ z2
theorem zlV {it:Addr} {x left step:Int} {Q:Option Value->Shared->Prop} (hh:zkg A s.heap) (hit:IsRangeIter s.heap it x left step) (hleft:left<=0)
  (k: ∀ h',Heap.ExtBut it s.heap h'->Q none {s with heap:=h'}):wpAny (model prog w) A (pyNext (.ref it)) Q E s:=by
 rcases hh with hh | ⟨ha,cls,head,hh,hX⟩
 ·exact wpAny_pyNext_range_end hh hit hleft k
 have hT:s.TypeIs (.ref it) "range_iterator":=⟨_,hit,rfl⟩
 unfold pyNext
 refine qaW (wpAny_attempt (wpAny_callSpecial?_slot (name:=Str.ofString "__next__") hT F.slot_range_iterator_next (wpAny_call_entry F.slot_range_iterator_next hT F.entry_range_iterator_next ?_ (F.args_range_iterator_next_1 _))))
 show wpAny _ _ (field (.ref it) 0>>=_) _ _ s
 refine qaW (wpAny_field hit rfl (x:=rawInt x) rfl ?_)
 show wpAny _ _ (field (.ref it) 1>>=_) _ _ s
 refine qaW (wpAny_field hit rfl (x:=rawInt left) rfl ?_)
 show wpAny _ _ (field (.ref it) 2>>=_) _ _ s
 refine qaW (wpAny_field hit rfl (x:=rawInt step) rfl ?_)
 show wpAny _ _ (if left<=0 then _ else _) _ _ s
 rw [qa4 hleft]
 refine qaW (wpAny_rule (qaW ?_))
 show wpAny _ _ (newExc (.type "StopIteration") []>>=_) _ _ _
 refine qaW ?_
 simp only [newExc,newTuple]
 refine qaW (qaC ?_ (by size_fits))
 refine qaW (m:=firstArgMember _ _) (wpAny_of_eq (a:=Value.none) (by first | rfl | (simp only [firstArgMember];rfl)) ?_)
 refine qaC ?_ (by size_fits)
 obtain ⟨ob,vs,x1,x2⟩:=hX
 have y1:=qag {cls:= .type "tuple",dict:=none,data:= .seq [].toArray} x1
 refine zcZ (h:=ha) (cls:=cls) (head:=head) hh ⟨ob,vs,qag _ y1,x2⟩ (qar _ rfl) rfl (by simp;omega) (qaR (qaQ y1)) ?_
 refine qaW (wpAny_isInstance (T:="StopIteration") (b:=true) ⟨_,qal _ (qar _ rfl) rfl,rfl⟩ isSubtype_stop ?_)
 refine qaX (k _ fun b o hb z=> ?_)
 have z2:=qag {cls:= .type "tuple",dict:=none,data:= .seq [].toArray} z
 rw [qah _ _ (Nat.ne_of_gt (qaQ z2))]
 exact qag _ z2
theorem zic.keep {h h':Heap} {a:Addr} {cls head:Value} (x:zic h a cls head) (k: ∀ o,h.get? a=some o->h'.get? a=some o):zic h' a cls head:=by
 obtain ⟨ob,vs,x1,x2⟩:=x
 exact ⟨ob,vs,k _ x1,x2⟩
end
end L3
namespace L2
open PySem PySem.Spec PyProof.Rows
noncomputable abbrev Key:=Sum Int Str
noncomputable def zrI:Key->Value->Bool
 | .inl k,v=>Value.isInt k v
 | .inr x,v=>Value.isStrOf x v
noncomputable def zu0 (w:World):Key->Int
 | .inl k=>hashInt k
 | .inr x=>hashStr w x
theorem zba: ∀ {k:Key} {v:Value},zrI k v=true->(∃ i t,k=Sum.inl i/\v=Value.int i t)\/(∃ x t,k=Sum.inr x/\v=Value.str x t)
 | .inl i,v,h=>by
  obtain ⟨t,e⟩:=Value.isInt_shape (k:=i) (v:=v) h
  exact .inl ⟨i,t,rfl,e⟩
 | .inr x,v,h=>by
  obtain ⟨t,e⟩:=Value.isStrOf_shape (x:=x) (v:=v) h
  exact .inr ⟨x,t,rfl,e⟩
theorem zsH (a b:Int):decide ((Sum.inl a:Key)=Sum.inl b)=(a==b):=by
 by_cases e:a=b
 ·subst e;simp
 ·have h: ¬(Sum.inl a:Key)=Sum.inl b:=fun q=>e (Sum.inl.inj q)
  rw [decide_eq_false h]
  exact (beq_eq_false_iff_ne.mpr e).symm
theorem zrl (a b:Str):decide ((Sum.inr a:Key)=Sum.inr b)=decide (a=b):=by
 by_cases e:a=b
 ·subst e;simp
 ·have h: ¬(Sum.inr a:Key)=Sum.inr b:=fun q=>e (Sum.inr.inj q)
  rw [decide_eq_false h,decide_eq_false e]
theorem zsF (a:Int) (b:Str):decide ((Sum.inl a:Key)=Sum.inr b)=false:=decide_eq_false (fun q=>nomatch q)
theorem zri (a:Str) (b:Int):decide ((Sum.inr a:Key)=Sum.inl b)=false:=decide_eq_false (fun q=>nomatch q)
noncomputable def ziz (prog:Program) (w:World):PySem.KeyKind prog w Key where
 is:=zrI
 hash:=zu0 w
 inj:=fun v a b ha hb=>by
  rcases zba ha with ⟨i,t,rfl,rfl⟩ | ⟨x,t,rfl,rfl⟩
  ·rcases zba hb with ⟨j,u,rfl,e⟩ | ⟨y,u,rfl,e⟩
   ·injection e with e1 _;rw [e1]
   ·exact nomatch e
  ·rcases zba hb with ⟨j,u,rfl,e⟩ | ⟨y,u,rfl,e⟩
   ·exact nomatch e
   ·injection e with e1 _;rw [e1]
 byValue:=fun k v h=>by
  rcases zba h with ⟨i,t,rfl,rfl⟩ | ⟨x,t,rfl,rfl⟩<;>rfl
 pyHash:=fun hv h=>by
  rcases zba hv with ⟨i,t,rfl,rfl⟩ | ⟨x,t,rfl,rfl⟩
  ·exact wpAny_pyHash_int h
  ·exact wpAny_pyHash_str h
 eqBool:=fun hu hv h=>by
  rcases zba hu with ⟨i,t,rfl,rfl⟩ | ⟨x,t,rfl,rfl⟩
  ·rcases zba hv with ⟨j,u,rfl,rfl⟩ | ⟨y,u,rfl,rfl⟩
   ·rw [zsH] at h;exact wpAny_eqBool_int h
   ·rw [zsF] at h;exact SeqAt.EqAt.int_str i t y u _ _ _ _ h
  ·rcases zba hv with ⟨j,u,rfl,rfl⟩ | ⟨y,u,rfl,rfl⟩
   ·rw [zri] at h;exact SeqAt.EqAt.str_int x t j u _ _ _ _ h
   ·rw [zrl] at h;exact wpAny_eqBool_str h
 «strs» := fun k x t v h=>by
  rcases zba h with ⟨i,u,rfl,e⟩ | ⟨y,u,rfl,e⟩
  ·exact nomatch e
  ·injection e with e1 _
   subst e1
   cases v<;>rfl
inductive V where
 | non | bl (b:Bool) | int (i:Int) | str (x:Str) | byt (b:Array UInt8) | flt (b:UInt64) | ref (a:Addr) | ty (n:String)
 deriving DecidableEq
noncomputable def zb5:V->Value->Prop
 | .non,u=>u=Value.none
 | .bl b,u=>u=Value.bool b
 | .int i,u=> ∃ t,u=Value.int i t
 | .str x,u=> ∃ t,u=Value.str x t
 | .byt b,u=> ∃ t,u=Value.bytes b t
 | .flt b,u=> ∃ t,u=Value.float b t
 | .ref a,u=>u=Value.ref a
 | .ty n,u=>u=Value.type n
noncomputable abbrev za7:List V->List Value->Prop:=Paired zb5
theorem za7.length {xs:List V} {us:List Value} (r:za7 xs us):xs.length=us.length:=Paired.length r
theorem za7.get: ∀ {xs:List V} {us:List Value} {i:Nat} {x:V},za7 xs us->xs[i]? = some x-> ∃ u,us[i]? = some u/\zb5 x u
 | _,_,_,_,.nil,e=>by simp at e
 | _,_,0,_,.cons r _,e=>by simp at e;subst e;exact ⟨_,rfl,r⟩
 | _,_,i+1,x,.cons _ t,e=>by
  obtain ⟨u,h1,h2⟩:=za7.get (i:=i) (x:=x) t (by simpa using e)
  exact ⟨u,by simpa using h1,h2⟩
theorem za7.set {x:V} {u:Value} (r:zb5 x u): ∀ {xs:List V} {us:List Value} (i:Nat),za7 xs us->za7 (xs.set i x) (us.set i u)
 | _,_,_,.nil=> .nil
 | _,_,0,.cons _ t=> .cons r t
 | _,_,i+1,.cons q t=> .cons q (za7.set r i t)
theorem za7.append: ∀ {xs ys:List V} {us ws:List Value},za7 xs us->za7 ys ws->za7 (xs++ys) (us++ws)
 | _,_,_,_,.nil,s=>s
 | _,_,_,_,.cons r t,s=> .cons r (za7.append t s)
theorem za7.take: ∀ {xs:List V} {us:List Value} (n:Nat),za7 xs us->za7 (xs.take n) (us.take n)
 | _,_,0,_=> .nil
 | _,_,_+1,.nil=> .nil
 | _,_,n+1,.cons r t=> .cons r (za7.take n t)
theorem za7.drop: ∀ {xs:List V} {us:List Value} (n:Nat),za7 xs us->za7 (xs.drop n) (us.drop n)
 | _,_,0,r=>r
 | _,_,_+1,.nil=> .nil
 | _,_,n+1,.cons _ t=>za7.drop n t
noncomputable def zta:Option V->Option Value->Prop
 | some v,some u=>zb5 v u
 | none,none=>True
 | _,_=>False
noncomputable def KV {κ:Type}:List (κ×V)->List (κ×Value)->Prop:=Paired fun (p:κ×V) (q:κ×Value)=>p.1=q.1/\zb5 p.2 q.2
noncomputable def kV:Key->V
 | .inl i=> .int i
 | .inr x=> .str x
inductive HO where
 | lst (xs:List V)
 | tup (xs:List V)
 | dK (kvs:List (Key×V)) | dT (kvs:List (List Key×V))
 | set (S:Int->Bool) (n:Nat)
 | ins (C dx:Addr) (fs:List (Str×V))
 | own (x:Addr)
 | xd (fs:List (Str×V))
 | met (f x:Addr)
 | rng (lo hi:Int)
 | frz (o:Obj) (u:HO)
 | tbl (ps:Array Value)
 | ext (φ:Heap->Prop)
noncomputable abbrev Hp:=Addr->Option HO
noncomputable def upd (H:Hp) (a:Addr) (o:HO):Hp:=fun b=>if b=a then some o else H b
theorem zaS {H:Hp} {a:Addr} {o:HO}:upd H a o a=some o:=by unfold upd;rw [qa4 rfl]
theorem zaF {H:Hp} {a b:Addr} {o:HO} (h:b≠a):upd H a o b=H b:=by unfold upd;rw [qa5 h]
theorem zaW {H:Hp} {a b:Addr} {o:HO} (h:H a=some o) (h':H b=none):a≠b:=by
 intro e;subst e;rw [h] at h';cases h'
section
variable (P:Program) (w:World)
noncomputable def zbU (H:Hp) (h:Heap) (a:Addr):HO->Prop
 | .lst xs=>xs.length<=sizeLine/\ ∃ (its:List Value) (n:Nat),za7 xs its/\h.get? a=some {cls:= .type "list",data:= .seq its.toArray n}
 | .tup xs=>xs.length<=sizeLine/\ ∃ its:List Value,za7 xs its/\IsTup h a its.toArray
 | .dK kvs=>kvs.length<=sizeLine/\(a==sysModules)=false/\ ∃ vs,KV kvs vs/\h.DictOf (ziz P w) a vs
 | .dT kvs=>kvs.length<=sizeLine/\(a==sysModules)=false/\ ∃ xs:List (List Key×Addr×Value),
   Paired (fun (p:List Key×V) (q:List Key×Addr×Value)=>p.1=q.1/\H q.2.1=some (.tup (p.1.map kV))/\zb5 p.2 q.2.2) kvs xs/\
   ∃ o es ep,h.get? a=some o/\o.ExactDict/\o.data= .dict es ep/\es.toList=xs.map (entryOfKey (tupleKind (ziz P w)))/\(xs.map (·.1)).Nodup
 | .set S n=>h.SetOf (intKind P w) a S n
 | .ins C dx fs=>H dx=some (.own a)/\fs.length<=1000/\dx≠a/\h.get? a=some (W.instObj C dx)/\
   ∃ mA,h.Ns1 dx mA/\(∀ f,zta (fs.lookup f) (mA f))/\PySem.Within mA (fs.map (·.1))
 | .own _=> ∃ o,h.get? a=some o
 | .xd fs=> ∃ mA,h.Ns1 a mA/\ ∀ f,zta (fs.lookup f) (mA f)
 | .rng lo hi=> ∃ t u v,h.get? a=some {cls:= .type "range",data:= .fields #[.int lo t,.int hi u,.int 1 v]}
 | .frz o u=>h.get? a=some o/\zbU H h a u
 | .tbl ps=>h.get? a=some {cls:= .none,data:= .fields ps}
 | .met f x=>h.get? a=some (W.methodObj (.ref f) (.ref x))
 | .ext φ=>φ h/\(∃ o,h.get? a=some o)/\ ∀ h1 h2:Heap,φ h1->(∀ o,h1.get? a=some o->h2.get? a=some o)->φ h2
def HOk (H:Hp) (h:Heap):Prop:= ∀ a o,H a=some o->zbU P w H h a o
end
section
variable {P:Program} {w:World} {H H':Hp} {h h':Heap} {a:Addr} {o:HO}
theorem zbU.lt (x:zbU P w H h a o):a<h.objs.size:=by
 cases o with
 | lst xs=>obtain ⟨_,_,_,_,e⟩:=x;exact qaQ e
 | tup xs=>obtain ⟨_,_,_,p⟩:=x;exact p.lt
 | dK kvs=>obtain ⟨_,_,_,_,o,_,_,e,_⟩:=x;exact qaQ e
 | dT kvs=>obtain ⟨_,_,_,_,o,_,_,e,_⟩:=x;exact qaQ e
 | set S n=>obtain ⟨o,_,_,_,e,_⟩:=x;exact qaQ e
 | ins C dx fs=>obtain ⟨_,_,_,e,_⟩:=x;exact qaQ e
 | own y=>obtain ⟨_,e⟩:=x;exact qaQ e
 | xd fs=>obtain ⟨_,⟨_,_,_,e,_⟩,_⟩:=x;exact qaQ e
 | rng lo hi=>obtain ⟨_,_,_,e⟩:=x;exact qaQ e
 | frz ob u=>obtain ⟨e,_⟩:=x;exact qaQ e
 | tbl ps=>exact qaQ (show h.get? a=some _ from x)
 | met f y=>exact qaQ (show h.get? a=some _ from x)
 | ext φ=>obtain ⟨_,⟨_,e⟩,_⟩:=x;exact qaQ e
theorem Paired.mapP {α β:Type} {F G:α->β->Prop}: ∀ {l₁:List α} {l₂:List β},Paired F l₁ l₂->(∀ a b,F a b->G a b)->Paired G l₁ l₂
 | _,_,.nil,_=> .nil
 | _,_,.cons r t,f=> .cons (f _ _ r) (Paired.mapP t f)
theorem zbU.stay (x:zbU P w H h a o) (k: ∀ b u,(b=a\/H b=some (.own a))->h.get? b=some u->h'.get? b=some u)
  (ho: ∀ b,H b=some (.own a)->H' b=some (.own a)) (ht: ∀ b xs,H b=some (.tup xs)->H' b=some (.tup xs)):zbU P w H' h' a o:=by
 induction o with
 | lst xs=>obtain ⟨z,its,n,r,e⟩:=x;exact ⟨z,its,n,r,k _ _ (.inl rfl) e⟩
 | tup xs=>obtain ⟨z,its,r,ob,e,c⟩:=x;exact ⟨z,its,r,ob,k _ _ (.inl rfl) e,c⟩
 | dK kvs=>obtain ⟨z,y,vs,r,ob,es,ep,e,c⟩:=x;exact ⟨z,y,vs,r,ob,es,ep,k _ _ (.inl rfl) e,c⟩
 | dT kvs=>
  obtain ⟨z,y,xs,r,ob,es,ep,e,c⟩:=x
  exact ⟨z,y,xs,Paired.mapP r fun p q z=>⟨z.1,ht _ _ z.2.1,z.2.2⟩,ob,es,ep,k _ _ (.inl rfl) e,c⟩
 | set S n=>obtain ⟨ob,es,ep,t,e,c⟩:=x;exact ⟨ob,es,ep,t,k _ _ (.inl rfl) e,c⟩
 | ins C dx fs=>
  obtain ⟨d,z,ne,e,mA,⟨od,es,ep,e2,c⟩,r⟩:=x
  exact ⟨ho _ d,z,ne,k _ _ (.inl rfl) e,mA,⟨od,es,ep,k _ _ (.inr d) e2,c⟩,r⟩
 | own y=>obtain ⟨ob,e⟩:=x;exact ⟨ob,k _ _ (.inl rfl) e⟩
 | xd fs=>obtain ⟨mA,⟨od,es,ep,e,c⟩,r⟩:=x;exact ⟨mA,⟨od,es,ep,k _ _ (.inl rfl) e,c⟩,r⟩
 | rng lo hi=>obtain ⟨t,u,v,e⟩:=x;exact ⟨t,u,v,k _ _ (.inl rfl) e⟩
 | frz ob u ih=>obtain ⟨e,q⟩:=x;exact ⟨k _ _ (.inl rfl) e,ih q⟩
 | tbl ps=>
  have e:h.get? a=some {cls:= .none,data:= .fields ps}:=x
  show h'.get? a=some {cls:= .none,data:= .fields ps}
  exact k a _ (.inl rfl) e
 | met f y=>
  have e:h.get? a=some (W.methodObj (.ref f) (.ref y)):=x
  show h'.get? a=some (W.methodObj (.ref f) (.ref y))
  exact k a _ (.inl rfl) e
 | ext φ=>obtain ⟨p,⟨o,e⟩,st⟩:=x;exact ⟨st _ _ p fun o q=>k _ _ (.inl rfl) q,⟨o,k _ _ (.inl rfl) e⟩,st⟩
theorem HOk.lt (x:HOk P w H h) (e:H a=some o):a<h.objs.size:=(x a o e).lt
theorem HOk.fresh (x:HOk P w H h) (e:h.objs.size<=a):H a=none:=by
 cases q:H a with
 | none=>rfl
 | some u=>exact absurd (qaw (x.lt q) e) (qaN _)
theorem HOk.kept (x:HOk P w H h) (k: ∀ b u,h.get? b=some u->h'.get? b=some u):HOk P w H h':=fun a o e=>
 (x a o e).stay (fun b u _ q=>k b u q) (fun _ q=>q) fun _ _ q=>q
theorem HOk.laid (x:HOk P w H h) (k: ∀ b u,h.get? b=some u->h'.get? b=some u) (hp:h.objs.size<=a) (new:zbU P w (upd H a o) h' a o):HOk P w (upd H a o) h':=fun b u e=>by
 have hn:=x.fresh hp
 by_cases hb:b=a
 ·subst hb;rw [zaS] at e;cases e;exact new
 ·rw [zaF hb] at e
  exact (x b u e).stay (fun c v _ q=>k c v q) (fun c q=>by rw [zaF (zaW q hn)];exact q) fun c xs q=>by rw [zaF (zaW q hn)];exact q
end
def Rd (H:Hp) (a:Addr) (u:HO):Prop:=H a=some u\/ ∃ o,H a=some (.frz o u)
theorem Rd.of {H:Hp} {a:Addr} {u:HO} (h:H a=some u):Rd H a u:= .inl h
theorem Rd.ok {P:Program} {w:World} {H:Hp} {h:Heap} {a:Addr} {u:HO} (r:Rd H a u) (x:HOk P w H h):zbU P w H h a u:=by
 rcases r with r | ⟨o,r⟩
 ·exact x a u r
 ·obtain ⟨_,q⟩:=x a _ r
  exact q
noncomputable def Mut:Option HO->Prop
 | some (.lst _)=>True
 | some (.dK _)=>True
 | some (.dT _)=>True
 | some (.set _ _)=>True
 | some (.ins _ _ _)=>True
 | some (.ext _)=>True
 | _=>False
section
variable {P:Program} {w:World} {H:Hp} {h h':Heap} {x e:Addr} {o':HO}
theorem HOk.write (ok:HOk P w H h) (mu:Mut (H x)) (he:e=x\/H e=some (.own x)) (k: ∀ b u,b≠e->h.get? b=some u->h'.get? b=some u) (heo: ∃ u,h'.get? e=some u)
  (new:zbU P w (upd H x o') h' x o'):HOk P w (upd H x o') h':=fun b u q=>by
 have nown: ∀ c y,H c=some (.own y)->c≠x:=fun c y r z=>by subst z;rw [r] at mu;exact mu
 have ntup: ∀ c xs,H c=some (.tup xs)->c≠x:=fun c xs r z=>by subst z;rw [r] at mu;exact mu
 by_cases hb:b=x
 ·subst hb;rw [zaS] at q;cases q;exact new
 ·rw [zaF hb] at q
  by_cases hbe:b=e
  ·have q':H b=some (.own x):=by
    rcases he with z | z
    ·exact absurd (hbe.trans z) hb
    ·rw [hbe];exact z
   rw [q] at q';cases q'
   obtain ⟨v,hv⟩:=heo
   exact ⟨v,by rw [hbe];exact hv⟩
  ·refine (ok b u q).stay (fun c v hc r=>k c v ?_ r) (fun c r=>by rw [zaF (nown c b r)];exact r) fun c xs r=>by rw [zaF (ntup c xs r)];exact r
   rcases hc with rfl | hc
   ·exact hbe
   ·rintro rfl
    rcases he with z | z
    ·exact nown c b hc z
    ·rw [hc] at z;cases z;exact hb rfl
end
structure Un (fs ex:List Addr) (H H':Hp) (h h':Heap):Prop where
 keep: ∀ b o,h.get? b=some o->H b=none->b∉fs->b∉ex->h'.get? b=some o
 slot: ∀ b o,h.get? b=some o->H b=none->b∈fs->b∉ex-> ∃ sl,h'.get? b=some {o with slots:=sl}
 free: ∀ b o,h.get? b=some o->H b=none->b∉ex->H' b=none
 there: ∀ b o,h.get? b=some o->b∉ex-> ∃ o',h'.get? b=some o'
 tups: ∀ b xs,H b=some (.tup xs)->H' b=some (.tup xs)
 frzs: ∀ b o u,H b=some (.frz o u)->H' b=some (.frz o u)
 tbls: ∀ b ps,H b=some (.tbl ps)-> ∃ more,H' b=some (.tbl (ps++more))
section
variable {fs fs' ex ex':List Addr} {H H1 H2:Hp} {h h1 h2 h':Heap} {a x e:Addr} {o:HO}
theorem Un.any (u:Un fs ex H H1 h h1) {b:Addr} {ob:Obj} (q:h.get? b=some ob) (n:H b=none) (hx:b∉ex): ∃ sl,h1.get? b=some {ob with slots:=sl}:=by
 by_cases hb:b∈fs
 ·exact u.slot b ob q n hb hx
 ·exact ⟨ob.slots,u.keep b ob q n hb hx⟩
theorem Un.trans (a:Un fs ex H H1 h h1) (b:Un fs ex H1 H2 h1 h2):Un fs ex H H2 h h2 where
 keep:=fun c ob q n hc hx=>b.keep c ob (a.keep c ob q n hc hx) (a.free c ob q n hx) hc hx
 slot:=fun c ob q n hc hx=>by
  obtain ⟨sl,e1⟩:=a.slot c ob q n hc hx
  obtain ⟨sl',e2⟩:=b.slot c _ e1 (a.free c ob q n hx) hc hx
  exact ⟨sl',e2⟩
 free:=fun c ob q n hx=>by
  obtain ⟨o',e1⟩:=a.there c ob q hx
  exact b.free c o' e1 (a.free c ob q n hx) hx
 there:=fun c ob q hx=>by
  obtain ⟨o',e1⟩:=a.there c ob q hx
  exact b.there c o' e1 hx
 tups:=fun c xs q=>b.tups c xs (a.tups c xs q)
 frzs:=fun c ob xs q=>b.frzs c ob xs (a.frzs c ob xs q)
 tbls:=fun c ps q=>by
  obtain ⟨m1,e1⟩:=a.tbls c ps q
  obtain ⟨m2,e2⟩:=b.tbls c _ e1
  exact ⟨m1++m2,by rw [e2,Array.append_assoc]⟩
theorem Un.kept (k: ∀ b u,h.get? b=some u->h'.get? b=some u):Un fs ex H H h h':=
 ⟨fun b ob q _ _ _=>k b ob q,fun b ob q _ _ _=>⟨ob.slots,k b ob q⟩,fun _ _ _ n _=>n,fun b ob q _=>⟨ob,k b ob q⟩,fun _ _ q=>q,fun _ _ _ q=>q,fun _ ps q=>⟨#[],by rw [q];simp⟩⟩
theorem Un.refl:Un fs ex H H h h:=Un.kept fun _ _ q=>q
theorem Un.laid (k: ∀ b u,h.get? b=some u->h'.get? b=some u) (hp:h.objs.size<=a) (hn:H a=none):Un fs ex H (upd H a o) h h' where
 keep:=fun b u q _ _ _=>k b u q
 slot:=fun b u q _ _ _=>⟨u.slots,k b u q⟩
 free:=fun b u q n _=>by rw [zaF (qaR (qaw (qaQ q) hp))];exact n
 there:=fun b u q _=>⟨u,k b u q⟩
 tups:=fun b xs q=>by rw [zaF (zaW q hn)];exact q
 frzs:=fun b u xs q=>by rw [zaF (zaW q hn)];exact q
 tbls:=fun b ps q=>⟨#[],by rw [zaF (zaW q hn),q];simp⟩
theorem Un.write (mu:Mut (H x)) (he:e=x\/H e=some (.own x)) (k: ∀ b u,b≠e->h.get? b=some u->h'.get? b=some u) (heo: ∃ u,h'.get? e=some u):Un fs ex H (upd H x o) h h':=by
 have hx: ∀ b,H b=none->b≠x:=fun b n z=>by subst z;rw [n] at mu;exact mu
 have hb: ∀ b,H b=none->b≠e:=fun b n z=>by
  subst z
  rcases he with r | r
  ·exact hx b n r
  ·rw [n] at r;cases r
 have hm: ∀ b u,H b=some u-> ¬Mut (some u)->b≠x:=fun b u q nm z=>by subst z;rw [q] at mu;exact nm mu
 refine ⟨fun b u q n _ _=>k b u (hb b n) q,fun b u q n _ _=>⟨u.slots,k b u (hb b n) q⟩,fun b u q n _=>by rw [zaF (hx b n)];exact n,fun b u q _=> ?_,
   fun b xs q=>by rw [zaF (hm b _ q fun z=>z)];exact q,fun b u xs q=>by rw [zaF (hm b _ q fun z=>z)];exact q,fun b ps q=>⟨#[],by rw [zaF (hm b _ q fun z=>z),q];simp⟩⟩
 by_cases hbe:b=e
 ·subst hbe;exact heo
 ·exact ⟨u,k b u hbe q⟩
theorem Un.mono (u:Un fs ex H H1 h h1) (hs: ∀ b∈fs,b∈fs') (hx: ∀ b∈ex,b∈ex'):Un fs' ex' H H1 h h1:=
 ⟨fun b ob q n hb he=>u.keep b ob q n (fun z=>hb (hs b z)) fun z=>he (hx b z),fun _ _ q n _ he=>u.any q n fun z=>he (hx _ z),fun b ob q n he=>u.free b ob q n fun z=>he (hx b z),fun b ob q he=>u.there b ob q fun z=>he (hx b z),u.tups,u.frzs,u.tbls⟩
end
noncomputable def trk (h:Heap) (H:Hp):List Addr:=(List.range h.objs.size).filter fun a=>(H a).isSome
noncomputable def zny (h:Heap) (H:Hp):Heap:=W.hideAll h (trk h H)
theorem zkM (h:Heap) (H:Hp):(zny h H).objs.size=h.objs.size:=W.hideAll_size _ _
theorem zm4 {h:Heap} {H:Hp} {b:Addr} {o:Obj} (e:h.get? b=some o) (n:H b=none):(zny h H).get? b=some o:=
 W.hideAll_get _ e fun hm=>by
  have q:(H b).isSome=true:=(List.mem_filter.mp hm).2
  rw [n] at q;simp at q
theorem zp5 {h:Heap} {H:Hp} {b:Addr} {o:Obj} (e:(zny h H).get? b=some o):h.get? b=some o/\H b=none:=by
 have e':h.get? b=some o:=W.of_hideAll (trk h H) e
 refine ⟨e',?_⟩
 cases q:H b with
 | none=>rfl
 | some x=>
  have hm:b∈trk h H:=List.mem_filter.mpr ⟨List.mem_range.mpr (qaQ e'),by simp [q]⟩
  have z:(zny h H).get? b=none:=W.hideAll_none (trk h H) hm
  rw [z] at e;cases e
noncomputable def zqk (g h:Heap) (L:Addr):List (Addr×Obj):=(List.range h.objs.size).filterMap fun a=>if a=L\/(g.get? a).isSome=true then none else (h.get? a).map fun o=>(a,o)
noncomputable def rest (g h:Heap) (L d:Addr):List (Addr×Obj):=(zqk g h L).filter fun p=>decide (p.1≠d)
structure Mod (K:W.Frag) (mg:Str->Option Value) (base:Heap):Prop where
 kin:K.In base
 glob:base.Ns mainGlobals mg
 blt: ∃ mb,base.Ns builtinsNs mb/\ ∀ x:Str,x≠"__name__"->mb x=bootBuiltins x
 nolimit:base.NoLimit
structure Cx where
 prog:Program
 w:World
 K:W.Frag
 mg:Str->Option Value
 base:Heap
 A:Around
 N:List Str
 s₀:Shared
 H₀:Hp
 env:Env
 outer:List Env
 stack:List Env
 ex:List Addr
 fn:Str->Bool
 calm:Bool
 pn:List (Addr×Obj)
 xe:Value->Shared->Prop
noncomputable def frs (l:List Env):List Addr:=l.filterMap (·.frame)
noncomputable abbrev Cx.fs (X:Cx):List Addr:=frs X.outer
def Vis (sc:Scope) (x:Str):Prop:=sc.names.lookup x=some .local\/sc.names.lookup x=some .cell\/sc.names.lookup x=some .free
def Loc (sc:Scope) (x:Str):Prop:=sc.names.lookup x=some .local\/sc.names.lookup x=some .cell
def zuM (env:Env) (h:Heap) (m:Str->Option Value) (x:Str) (u:Value):Prop:=
 (env.kindOf x=some .local/\m x=some u)\/((env.kindOf x=some .cell\/env.kindOf x=some .free)/\ ∃ c,env.cells.lookup x=some c/\h.IsCell c (some u))
def zhm (A:Around) (H:Hp):Prop:=A.handled=none\/ ∃ a o cls head vs,A.handled=some (.ref a)/\H a=some (.frz o (.own 0))/\o.cls=cls/\o.dict=none/\o.data= .fields vs/\vs[2]? = some .none/\vs[1]? = some head
structure Cx.Ok (X:Cx):Prop where
 mod:Mod X.K X.mg X.base
 kind:X.env.scope.kind= .function
 glob:X.env.globals=mainGlobals
 blt:X.env.builtins=builtinsNs
 above:X.s₀.heap.objs.size<=X.env.locals
 inj: ∀ x y c,X.env.cells.lookup x=some c->X.env.cells.lookup y=some c->x=y
 has: ∀ x,(X.env.kindOf x=some .cell\/X.env.kindOf x=some .free)-> ∃ c,X.env.cells.lookup x=some c
 cab: ∀ x c,X.fn x=true->X.env.cells.lookup x=some c->X.s₀.heap.objs.size<=c
 hd:X.calm=true->X.A.handled=none
 hx:zhm X.A X.H₀
 frames:X.A.frames=some X.stack
 stk:X.stack=X.outer\/(X.stack=X.env::X.outer/\X.env.frame=some X.env.locals)
 exf: ∀ b∈X.ex,b≠X.env.locals/\ ∀ x c,X.env.cells.lookup x=some c->c≠b
 bs: ∀ b o,X.base.get? b=some o->X.s₀.heap.get? b=some o/\X.H₀ b=none
 bsz:X.base.objs.size<=X.s₀.heap.objs.size
 noex: ∀ b o,X.base.get? b=some o->b∉X.ex
 exfs: ∀ b∈X.ex,b∉X.fs
 funs:X.s₀.heap.FunFrames X.base X.outer
 frf: ∀ b∈X.fs,X.H₀ b=none
structure Inv (X:Cx) (pins:List (Addr×Obj)) (σ:List (Option V)) (H:Hp) (s:Shared):Prop where
 ok:X.Ok
 os:s.os=X.s₀.os
 bare:AllBare s.gens
 base:Un X.fs X.ex X.H₀ H X.s₀.heap s.heap
 loc: ∃ m,s.heap.Ns X.env.locals m/\ ∀ (i:Nat) (x:Str) (v:V),X.N[i]? = some x->σ[i]? = some (some v)->Vis X.env.scope x-> ∃ u,zb5 v u/\zuM X.env s.heap m x u
 cell: ∀ x c,X.env.cells.lookup x=some c-> ∃ v,s.heap.IsCell c v
 free:H X.env.locals=none
 freeC: ∀ x c,X.env.cells.lookup x=some c->H c=none
 pin: ∀ p∈X.pn++pins,s.heap.get? p.1=some p.2/\H p.1=none/\p.1≠X.env.locals/\p.1∉X.fs/\ ∀ v,p.2.data≠ .cell v
 hok:HOk X.prog X.w H s.heap
 len:σ.length=X.N.length
section
variable {X:Cx} {pins:List (Addr×Obj)} {σ:List (Option V)} {H H':Hp} {s:Shared} {h':Heap}
theorem Cx.Ok.nofr (ok:X.Ok) {b:Addr} {o:Obj} (e:X.base.get? b=some o):b∉X.fs:=fun hb=>by
 have:=(ok.funs.mem hb).1
 rw [e] at this;cases this
theorem Inv.bs (I:Inv X pins σ H s): ∀ b o,X.base.get? b=some o->s.heap.get? b=some o/\H b=none:=fun b o e=>
 ⟨I.base.keep b o (I.ok.bs b o e).1 (I.ok.bs b o e).2 (I.ok.nofr e) (I.ok.noex b o e),I.base.free b o (I.ok.bs b o e).1 (I.ok.bs b o e).2 (I.ok.noex b o e)⟩
theorem Inv.bk (I:Inv X pins σ H s): ∀ b o,X.base.get? b=some o->s.heap.get? b=some o:=fun b o e=>(I.bs b o e).1
theorem Inv.mod (I:Inv X pins σ H s):Mod X.K X.mg X.base:=I.ok.mod
theorem Inv.kIn (I:Inv X pins σ H s):X.K.In s.heap:=I.ok.mod.kin.keeps I.bk
theorem Inv.nolimit (I:Inv X pins σ H s):s.heap.NoLimit:=I.ok.mod.nolimit.keeps I.bk
theorem Inv.fr (I:Inv X pins σ H s): ∃ m,Fr X.base X.env.locals s.heap m:=
 let ⟨m,hn,_⟩:=I.loc
 ⟨m,hn,I.bk,qaS I.ok.bsz I.ok.above⟩
theorem Inv.lt (I:Inv X pins σ H s):X.env.locals<s.heap.objs.size:=let ⟨_,hn,_⟩:=I.loc;hn.lt
theorem Inv.sz (I:Inv X pins σ H s):X.s₀.heap.objs.size<=s.heap.objs.size:=qaS I.ok.above (Nat.le_of_lt I.lt)
theorem Inv.nofs (I:Inv X pins σ H s) {a:Addr} (h:s.heap.objs.size<=a):a∉X.fs:=fun hb=>by
 obtain ⟨_,o,ho,_⟩:=I.ok.funs.mem hb
 exact absurd (qaw (qaQ ho) (qaS I.sz h)) (qaN _)
theorem Inv.cne (I:Inv X pins σ H s): ∀ x c,X.env.cells.lookup x=some c->c≠X.env.locals:=fun x c e z=>by
 obtain ⟨v,o,ho,hd⟩:=I.cell x c e
 obtain ⟨m,⟨o',es,ep,ho',hd',_⟩,_⟩:=I.loc
 rw [z,ho'] at ho;cases ho;rw [hd'] at hd;cases hd
theorem Inv.funs (I:Inv X pins σ H s):s.heap.FunFrames X.base X.outer:=by
 have all: ∀ (l:List Env),(∀ b∈frs l,b∈X.fs)->X.s₀.heap.FunFrames X.base l->s.heap.FunFrames X.base l:=by
  intro l
  induction l with
  | nil=>intro _ _;trivial
  | cons env r ih=>
   intro hs hl
   obtain ⟨hk,⟨L,o,hf,hn,ho,hd⟩,hr⟩:=hl
   have hL:L∈X.fs:=hs L (by unfold frs;rw [qat,hf];exact qau)
   obtain ⟨sl,e⟩:=I.base.slot L o ho (I.ok.frf L hL) hL fun z=>I.ok.exfs L z hL
   exact ⟨hk,⟨L,_,hf,hn,e,hd⟩,ih (fun b hb=>hs b (by unfold frs;rw [qat,hf];exact qan _ hb)) hr⟩
 exact all X.outer (fun _ hb=>hb) I.ok.funs
theorem Inv.stack (I:Inv X pins σ H s):s.heap.FunFrames X.base X.stack:=by
 rcases I.ok.stk with e | ⟨e,hf⟩
 ·rw [e];exact I.funs
 ·rw [e]
  obtain ⟨m,hn,_⟩:=I.loc
  refine .cons (by rw [I.ok.kind];decide) hf hn ?_ I.funs
  exact Heap.get?_none_of_le (qaS I.ok.bsz I.ok.above)
theorem Inv.stkSub (I:Inv X pins σ H s): ∀ b∈frs X.stack,b∈X.env.locals::X.fs:=fun b hb=>by
 rcases I.ok.stk with e | ⟨e,hf⟩
 ·rw [e] at hb;exact qan _ hb
 ·rw [e] at hb
  unfold frs at hb
  rw [qat,hf] at hb
  exact hb
theorem Inv.stkFree (I:Inv X pins σ H s): ∀ b∈frs X.stack,H b=none:=fun b hb=>by
 rcases qaP.mp (I.stkSub b hb) with e | hb
 ·rw [e];exact I.free
 ·obtain ⟨_,o,ho,_⟩:=I.ok.funs.mem hb
  exact I.base.free b o ho (I.ok.frf b hb) fun z=>I.ok.exfs b z hb
theorem Inv.step {g':Array GenState} {t':Nat} {d':Drawn} {ch:List Addr} (I:Inv X pins σ H s)
  (hch: ∀ b∈ch,(b∈X.ex\/X.s₀.heap.objs.size<=b)/\b≠X.env.locals/\(∀ x c,X.env.cells.lookup x=some c->c≠b)/\ ∀ p∈X.pn++pins,p.1≠b)
  (keep: ∀ b o,b≠X.env.locals->b∉X.fs->b∉ch->s.heap.get? b=some o->H b=none->h'.get? b=some o)
  (slot: ∀ b o,b≠X.env.locals->b∈X.fs->b∉ch->s.heap.get? b=some o->H b=none-> ∃ sl,h'.get? b=some {o with slots:=sl}) (free: ∀ b o,b∉ch->s.heap.get? b=some o->H b=none->H' b=none)
  (there: ∀ b o,b∉ch->s.heap.get? b=some o-> ∃ o',h'.get? b=some o')
  (tups: ∀ b xs,H b=some (.tup xs)->H' b=some (.tup xs)) (frzs: ∀ b o u,H b=some (.frz o u)->H' b=some (.frz o u)) (tbls: ∀ b ps,H b=some (.tbl ps)-> ∃ more,H' b=some (.tbl (ps++more)))
  (ns: ∀ m,s.heap.Ns X.env.locals m->h'.Ns X.env.locals m) (hok:HOk X.prog X.w H' h') (hg:AllBare g'):
  Inv X pins σ H' {s with heap:=h',gens:=g',drawn:=d',toks:=t'}:=by
 have neL: ∀ b o,X.s₀.heap.get? b=some o->b≠X.env.locals:=fun b o e=>qaR (qaw (qaQ e) I.ok.above)
 have neC: ∀ b o,X.s₀.heap.get? b=some o->b∉X.ex->b∉ch:=fun b o e hx hb=>by
  rcases (hch b hb).1 with z | z
  ·exact hx z
  ·exact absurd (qaw (qaQ e) z) (qaN _)
 have cellK: ∀ x c,X.env.cells.lookup x=some c-> ∀ v,s.heap.IsCell c v->h'.IsCell c v:=fun x c e v ⟨o,ho,hd⟩=>by
  have nch:c∉ch:=fun z=>(hch c z).2.2.1 x c e rfl
  by_cases hc:c∈X.fs
  ·obtain ⟨sl,q⟩:=slot c o (I.cne x c e) hc nch ho (I.freeC x c e)
   exact ⟨_,q,hd⟩
  ·exact ⟨o,keep c o (I.cne x c e) hc nch ho (I.freeC x c e),hd⟩
 refine ⟨I.ok,I.os,hg,⟨fun b o e n hb hx=> ?_,fun b o e n hb hx=> ?_,fun b o e n hx=> ?_,fun b o e hx=> ?_,fun b xs e=>tups b xs (I.base.tups b xs e),fun b o xs e=>frzs b o xs (I.base.frzs b o xs e),fun b ps e=> ?_⟩,?_,fun x c e=> ?_,?_,fun x c e=> ?_,fun p hp=> ?_,hok,I.len⟩
 ·exact keep b o (neL b o e) hb (neC b o e hx) (I.base.keep b o e n hb hx) (I.base.free b o e n hx)
 ·obtain ⟨sl,e1⟩:=I.base.slot b o e n hb hx
  obtain ⟨sl',e2⟩:=slot b _ (neL b o e) hb (neC b o e hx) e1 (I.base.free b o e n hx)
  exact ⟨sl',e2⟩
 ·obtain ⟨o',e1⟩:=I.base.there b o e hx
  exact free b o' (neC b o e hx) e1 (I.base.free b o e n hx)
 ·obtain ⟨o',e1⟩:=I.base.there b o e hx
  exact there b o' (neC b o e hx) e1
 ·obtain ⟨m1,e1⟩:=I.base.tbls b ps e
  obtain ⟨m2,e2⟩:=tbls b _ e1
  exact ⟨m1++m2,by rw [e2,Array.append_assoc]⟩
 ·obtain ⟨m,hn,hl⟩:=I.loc
  refine ⟨m,ns m hn,fun i x v e1 e2 e3=> ?_⟩
  obtain ⟨u,r,l⟩:=hl i x v e1 e2 e3
  refine ⟨u,r,?_⟩
  rcases l with l | ⟨k,c,e,z⟩
  ·exact .inl l
  ·exact .inr ⟨k,c,e,cellK x c e _ z⟩
 ·obtain ⟨v,z⟩:=I.cell x c e
  exact ⟨v,cellK x c e v z⟩
 ·obtain ⟨m,⟨o,_,_,ho,_⟩,_⟩:=I.loc
  exact free _ o (fun z=>(hch _ z).2.1 rfl) ho I.free
 ·obtain ⟨v,o,ho,hd⟩:=I.cell x c e
  exact free c o (fun z=>(hch c z).2.2.1 x c e rfl) ho (I.freeC x c e)
 ·obtain ⟨e,n,ne,nf,d⟩:=I.pin p hp
  have nch:p.1∉ch:=fun z=>(hch p.1 z).2.2.2 p hp rfl
  exact ⟨keep p.1 p.2 ne nf nch e n,free p.1 p.2 nch e n,ne,nf,d⟩
theorem Inv.un {t':Nat} (I:Inv X pins σ H s) (u:Un X.fs [] H H' s.heap h') (hok:HOk X.prog X.w H' h'):Inv X pins σ H' {s with heap:=h',toks:=t'}:=by
 obtain ⟨m,⟨o,es,ep,ho,r⟩,_⟩:=id I.loc
 obtain ⟨sl,hL⟩:=u.any ho I.free (by simp)
 exact I.step (g':=s.gens) (d':=s.drawn) (ch:=[]) (fun _ z=>nomatch z) (fun b o _ hb _ e n=>u.keep b o e n hb (by simp)) (fun b o _ hb _ e n=>u.slot b o e n hb (by simp)) (fun b o _ e n=>u.free b o e n (by simp)) (fun b o _ e=>u.there b o e (by simp)) u.tups u.frzs u.tbls (fun m' hm=>by
   obtain ⟨o',es',ep',ho',r'⟩:=hm
   rw [ho] at ho';cases ho'
   exact ⟨_,es',ep',hL,r'⟩) hok I.bare
theorem Inv.call {g':Array GenState} {t':Nat} {d':Drawn} {ch:List Addr} (I:Inv X pins σ H s) (u:Un (frs X.stack) ch H H' s.heap h') (hok:HOk X.prog X.w H' h') (hg:AllBare g')
  (hch: ∀ b∈ch,(b∈X.ex\/X.s₀.heap.objs.size<=b)/\b≠X.env.locals/\(∀ x c,X.env.cells.lookup x=some c->c≠b)/\ ∀ p∈X.pn++pins,p.1≠b):
  Inv X pins σ H' {s with heap:=h',gens:=g',drawn:=d',toks:=t'}:=by
 obtain ⟨m,⟨o,es,ep,ho,r⟩,_⟩:=id I.loc
 obtain ⟨sl,hL⟩:=u.any ho I.free fun z=>(hch _ z).2.1 rfl
 exact I.step (ch:=ch) hch (fun b o hL hb hc e n=>u.keep b o e n (fun z=>(qaP.mp (I.stkSub b z)).elim hL hb) hc) (fun b o _ _ hc e n=>u.any e n hc) (fun b o hc e n=>u.free b o e n hc) (fun b o hc e=>u.there b o e hc) u.tups u.frzs u.tbls (fun m' hm=>by
   obtain ⟨o',es',ep',ho',r'⟩:=hm
   rw [ho] at ho';cases ho'
   exact ⟨_,es',ep',hL,r'⟩) hok hg
theorem Inv.turned {t':Nat} {it:Addr} (I:Inv X pins σ H s) (k: ∀ b o,b≠it->s.heap.get? b=some o->h'.get? b=some o) (hn:H it=none) (hL:it≠X.env.locals)
  (h1:it∈X.ex\/X.s₀.heap.objs.size<=it) (h2: ∀ x c,X.env.cells.lookup x=some c->c≠it) (h3: ∀ p∈X.pn++pins,p.1≠it):Inv X pins σ H {s with heap:=h',toks:=t'}:=by
 have nit: ∀ b u,H b=some u->b≠it:=fun b u e z=>by rw [z,hn] at e;cases e
 refine I.step (g':=s.gens) (d':=s.drawn) (ch:=[it]) (fun b hb=> ?_) (fun b o _ _ hc e _=>k b o (fun z=>hc (by simp [z])) e) (fun b o _ _ hc e _=>⟨o.slots,k b o (fun z=>hc (by simp [z])) e⟩) (fun _ _ _ _ n=>n)
  (fun b o hc e=>⟨o,k b o (fun z=>hc (by simp [z])) e⟩) (fun _ _ e=>e) (fun _ _ _ e=>e) (fun b ps e=>⟨#[],by rw [e];simp⟩) (fun m hm=> ?_) (fun b u e=> ?_) I.bare
 ·have e:b=it:=by simpa using hb
  subst e
  exact ⟨h1,hL,h2,h3⟩
 ·obtain ⟨o,es,ep,ho,r⟩:=hm
  exact ⟨o,es,ep,k _ o (Ne.symm hL) ho,r⟩
 ·refine (I.hok b u e).stay (fun c v hc q=>k c v ?_ q) (fun _ q=>q) fun _ _ q=>q
  rcases hc with z | z
  ·rw [z];exact nit b u e
  ·exact nit c _ z
theorem Inv.tok (I:Inv X pins σ H s) (t:Nat):Inv X pins σ H {s with toks:=t}:=I.un (h':=s.heap) (t':=t) Un.refl I.hok
theorem Inv.kept {t':Nat} (I:Inv X pins σ H s) (k: ∀ b u,s.heap.get? b=some u->h'.get? b=some u):Inv X pins σ H {s with heap:=h',toks:=t'}:=I.un (Un.kept k) (I.hok.kept k)
theorem Inv.laid {a:Addr} {o:HO} {t':Nat} (I:Inv X pins σ H s) (k: ∀ b u,s.heap.get? b=some u->h'.get? b=some u) (hp:s.heap.objs.size<=a) (new:zbU X.prog X.w (upd H a o) h' a o):
  Inv X pins σ (upd H a o) {s with heap:=h',toks:=t'}:=I.un (Un.laid k hp (I.hok.fresh hp)) (I.hok.laid k hp new)
theorem Inv.write {x e:Addr} {o:HO} {t':Nat} (I:Inv X pins σ H s) (mu:Mut (H x)) (he:e=x\/H e=some (.own x)) (k: ∀ b u,b≠e->s.heap.get? b=some u->h'.get? b=some u) (heo: ∃ u,h'.get? e=some u)
  (new:zbU X.prog X.w (upd H x o) h' x o):Inv X pins σ (upd H x o) {s with heap:=h',toks:=t'}:=I.un (Un.write mu he k heo) (I.hok.write mu he k heo new)
theorem Inv.pins_of {pins':List (Addr×Obj)} (I:Inv X pins σ H s) (h: ∀ p∈pins',s.heap.get? p.1=some p.2/\H p.1=none/\p.1≠X.env.locals/\p.1∉X.fs/\ ∀ v,p.2.data≠ .cell v):Inv X pins' σ H s:=
 ⟨I.ok,I.os,I.bare,I.base,I.loc,I.cell,I.free,I.freeC,fun p hp=>(qaK.mp hp).elim (fun z=>I.pin p (List.mem_append_left _ z)) (h p),I.hok,I.len⟩
theorem zg4 {N:List Str} (hN:N.Nodup) {i j:Nat} {x:Str} (a:N[i]? = some x) (b:N[j]? = some x):i=j:=by
 obtain ⟨h1,e1⟩:=qac.mp a
 obtain ⟨h2,e2⟩:=qac.mp b
 exact (List.getElem_inj hN).mp (e1.trans e2.symm)
theorem zhL {M:Model} {A:Around} {E:Value->Shared->Prop} {i:Nat} {x:Str} {v:V} {u:Value} {Q:Unit->Shared->Prop} (I:Inv X pins σ H s) (hN:X.N.Nodup) (hi:X.N[i]? = some x) (hx:Loc X.env.scope x) (r:zb5 v u)
  (h: ∀ s',Inv X pins (σ.set i (some v)) H s'->(∃ a,Heap.SameBut a s.heap s'.heap/\(a=X.env.locals\/X.env.cells.lookup x=some a))->Q () s') (hf:X.fn x=true\/X.env.scope.names.lookup x=some .local:=by first | exact .inl rfl | exact .inr rfl | assumption):wpAny M A (storeName X.env x u) Q E s:=by
 obtain ⟨m,hn,hl⟩:=id I.loc
 have hcls:(X.env.scope.kind== .class || (X.env.scope.kind== .module && X.env.locals != X.env.globals))=false:=by rw [I.ok.kind];rfl
 have hiσ:i<σ.length:=by rw [I.len];exact (qac.mp hi).1
 have cne:=I.cne
 have tracked: ∀ {a:Addr} {h':Heap},(∃ o,s.heap.get? a=some o/\H a=none)->Heap.SameBut a s.heap h'->HOk X.prog X.w H h':=fun {a h'} ha hs b ob e=>by
  obtain ⟨_,_,hfree⟩:=ha
  refine (I.hok b ob e).stay (fun c w' hc q=>(hs.2 c ?_).trans q) (fun _ q=>q) fun _ _ q=>q
  rintro rfl
  rcases hc with rfl | hc
  ·rw [hfree] at e;cases e
  ·rw [hfree] at hc;cases hc
 rcases hx with hk | hk
 ·refine wpAny_storeName_local hk hn (fun h' hn' hs=> ?_) hcls
  obtain ⟨oL,_,_,hoL,_⟩:=id hn
  refine h _ ⟨I.ok,I.os,I.bare,⟨fun b o e n hb hx=> ?_,fun b o e n hb hx=> ?_,I.base.free,fun b o e hx=> ?_,I.base.tups,I.base.frzs,I.base.tbls⟩,⟨_,hn',fun j y v' e1 e2 e3=> ?_⟩,fun y c e=> ?_,I.free,I.freeC,fun p hp=> ?_,tracked ⟨oL,hoL,I.free⟩ hs,by simpa using I.len⟩ ⟨_,hs,.inl rfl⟩
  ·exact (hs.2 b (qaR (qaw (qaQ e) I.ok.above))).trans (I.base.keep b o e n hb hx)
  ·obtain ⟨sl,e1⟩:=I.base.slot b o e n hb hx
   exact ⟨sl,(hs.2 b (qaR (qaw (qaQ e) I.ok.above))).trans e1⟩
  ·obtain ⟨o',e1⟩:=I.base.there b o e hx
   exact ⟨o',(hs.2 b (qaR (qaw (qaQ e) I.ok.above))).trans e1⟩
  ·by_cases hj:j=i
   ·subst hj
    rw [hi] at e1;cases e1
    rw [qai hiσ] at e2
    cases e2
    exact ⟨u,r,.inl ⟨hk,by simp⟩⟩
   ·rw [qao (Ne.symm hj)] at e2
    obtain ⟨u',r',q⟩:=hl j y v' e1 e2 e3
    refine ⟨u',r',?_⟩
    rcases q with ⟨k,e⟩ | ⟨k,c,e,z⟩
    ·refine .inl ⟨k,?_⟩
     have:y≠x:=fun e=>hj (zg4 hN e1 (e▸hi))
     simp [this,e]
    ·exact .inr ⟨k,c,e,z.sameBut hs (cne y c e)⟩
  ·obtain ⟨w',z⟩:=I.cell y c e
   exact ⟨w',z.sameBut hs (cne y c e)⟩
  ·obtain ⟨e,n,ne,nf,d⟩:=I.pin p hp
   exact ⟨(hs.2 p.1 ne).trans e,n,ne,nf,d⟩
 ·have hfn:X.fn x=true:=by
   rcases hf with z | z
   ·exact z
   ·rw [z] at hk;cases hk
  obtain ⟨c,hc⟩:=I.ok.has x (.inl hk)
  obtain ⟨w',z⟩:=I.cell x c hc
  refine wpAny_storeName_cell I.ok.kind hk hc z (fun h' hc' hs=> ?_)
  obtain ⟨oc,hoc,hocd⟩:=id z
  refine h {s with heap:=h'} ⟨I.ok,I.os,I.bare,⟨fun b o e n hb hx=> ?_,fun b o e n hb hx=> ?_,I.base.free,fun b o e hx=> ?_,I.base.tups,I.base.frzs,I.base.tbls⟩,⟨m,hn.sameBut hs (Ne.symm (cne x c hc)),fun j y v' e1 e2 e3=> ?_⟩,fun y c' e=> ?_,I.free,I.freeC,fun p hp=> ?_,tracked ⟨oc,hoc,I.freeC x c hc⟩ hs,by simpa using I.len⟩ ⟨c,hs,.inr hc⟩
  ·exact (hs.2 b (qaR (qaw (qaQ e) (I.ok.cab x c hfn hc)))).trans (I.base.keep b o e n hb hx)
  ·obtain ⟨sl,e1⟩:=I.base.slot b o e n hb hx
   exact ⟨sl,(hs.2 b (qaR (qaw (qaQ e) (I.ok.cab x c hfn hc)))).trans e1⟩
  ·obtain ⟨o',e1⟩:=I.base.there b o e hx
   exact ⟨o',(hs.2 b (qaR (qaw (qaQ e) (I.ok.cab x c hfn hc)))).trans e1⟩
  ·by_cases hj:j=i
   ·subst hj
    rw [hi] at e1;cases e1
    rw [qai hiσ] at e2
    cases e2
    exact ⟨u,r,.inr ⟨.inl hk,c,hc,hc'⟩⟩
   ·rw [qao (Ne.symm hj)] at e2
    obtain ⟨u',r',q⟩:=hl j y v' e1 e2 e3
    refine ⟨u',r',?_⟩
    rcases q with q | ⟨k,c',e,z'⟩
    ·exact .inl q
    ·refine .inr ⟨k,c',e,z'.sameBut hs ?_⟩
     rintro rfl
     exact hj (zg4 hN e1 (I.ok.inj _ _ _ e hc▸hi))
  ·by_cases hcc:c'=c
   ·subst hcc;exact ⟨_,hc'⟩
   ·obtain ⟨w2,z2⟩:=I.cell y c' e
    exact ⟨w2,z2.sameBut hs hcc⟩
  ·obtain ⟨e,n,ne,nf,d⟩:=I.pin p hp
   refine ⟨(hs.2 p.1 ?_).trans e,n,ne,nf,d⟩
   intro q
   rw [q,hoc] at e
   have q':oc=p.2:=Option.some.inj e
   exact d w' (by rw [<- q'];exact hocd)
theorem zfg {M:Model} {A:Around} {E:Value->Shared->Prop} {i:Nat} {x:Str} {v:V} {u:Value} {Q:Unit->Shared->Prop} (I:Inv X pins σ H s) (hN:X.N.Nodup) (hi:X.N[i]? = some x) (hx:Loc X.env.scope x) (r:zb5 v u)
  (h: ∀ s',Inv X pins (σ.set i (some v)) H s'->Q () s') (hf:X.fn x=true\/X.env.scope.names.lookup x=some .local:=by first | exact .inl rfl | exact .inr rfl | assumption):wpAny M A (storeName X.env x u) Q E s:=
 zhL I hN hi hx r (fun s' I' _=>h s' I') hf
theorem Inv.call' {s':Shared} {ch:List Addr} (I:Inv X pins σ H s) (ho:s'.os=s.os) (u:Un (frs X.stack) ch H H' s.heap s'.heap) (hok:HOk X.prog X.w H' s'.heap) (hg:AllBare s'.gens)
  (hch: ∀ b∈ch,(b∈X.ex\/X.s₀.heap.objs.size<=b)/\b≠X.env.locals/\(∀ x c,X.env.cells.lookup x=some c->c≠b)/\ ∀ p∈X.pn++pins,p.1≠b):Inv X pins σ H' s':=by
 obtain ⟨h',g',d',t',o'⟩:=s'
 have e:o'=s.os:=ho
 subst e
 exact I.call (g':=g') (t':=t') (d':=d') u hok hg hch
end
noncomputable abbrev XK:=Value->Option Addr->Hp->Prop
noncomputable abbrev St:=List (Option V)
noncomputable abbrev VK:=V->Hp->Prop
noncomputable abbrev TE:=St->Hp->VK->Prop
noncomputable abbrev TT:=St->Hp->(Bool->Hp->Prop)->Prop
noncomputable abbrev TA:=St->Hp->(List V->Hp->Prop)->Prop
structure zoe where
 nx:St->Hp->Prop
 rt:VK
 bk:St->Hp->Prop:=fun _ _=>False
 ct:St->Hp->Prop:=fun _ _=>False
noncomputable abbrev TS:=zoe->St->Hp->Prop
def EP (X:Cx) (pins:List (Addr×Obj)) (σ:St) (Q:VK) (u:Value) (s':Shared):Prop:= ∃ v H',Inv X pins σ H' s'/\zb5 v u/\Q v H'
def TP (X:Cx) (pins:List (Addr×Obj)) (σ:St) (Q:Bool->Hp->Prop) (b:Bool) (s':Shared):Prop:= ∃ H',Inv X pins σ H' s'/\Q b H'
def AP (X:Cx) (pins:List (Addr×Obj)) (σ:St) (Q:List V->Hp->Prop) (us:List Value) (s':Shared):Prop:= ∃ vs H',Inv X pins σ H' s'/\za7 vs us/\Q vs H'
def SP (X:Cx) (pins:List (Addr×Obj)) (D:zoe) (f:Flow) (s':Shared):Prop:=
 match f with
 | .next=> ∃ σ' H',Inv X pins σ' H' s'/\D.nx σ' H'
 | .brk=> ∃ σ' H',Inv X pins σ' H' s'/\D.bk σ' H'
 | .cont=> ∃ σ' H',Inv X pins σ' H' s'/\D.ct σ' H'
 | .ret u=> ∃ v σ' H',Inv X pins σ' H' s'/\zb5 v u/\D.rt v H'
def PE (X:Cx) (e:Expr) (t:TE):Prop:=
 ∀ (pins:List (Addr×Obj)) (s:Shared) (σ:St) (H:Hp) (Q:VK),Inv X pins σ H s->t σ H Q->wpAny (model X.prog X.w) X.A (eval e X.env) (EP X pins σ Q) X.xe s
def PT (X:Cx) (e:Expr) (t:TT):Prop:=
 ∀ (pins:List (Addr×Obj)) (s:Shared) (σ:St) (H:Hp) (Q:Bool->Hp->Prop),Inv X pins σ H s->t σ H Q->wpAny (model X.prog X.w) X.A (isTrue e X.env (eval e X.env)) (TP X pins σ Q) X.xe s
def PW (X:Cx) (e:Expr) (t:TT):Prop:=
 ∀ (whole:Sem Value) (pins:List (Addr×Obj)) (s:Shared) (σ:St) (H:Hp) (Q:Bool->Hp->Prop),Inv X pins σ H s->t σ H Q->wpAny (model X.prog X.w) X.A (isTrue e X.env whole) (TP X pins σ Q) X.xe s
theorem PW.pt {X:Cx} {e:Expr} {t:TT} (h:PW X e t):PT X e t:=h _
def PA (X:Cx) (es:List Expr) (t:TA):Prop:=
 ∀ (pos:Pos) (pins:List (Addr×Obj)) (s:Shared) (σ:St) (H:Hp) (Q:List V->Hp->Prop),Inv X pins σ H s->t σ H Q->wpAny (model X.prog X.w) X.A (spliced (backTo pos (starEach es X.env))) (AP X pins σ Q) X.xe s
def PS (X:Cx) (st:Stmt) (t:TS):Prop:=
 ∀ (pins:List (Addr×Obj)) (s:Shared) (σ:St) (H:Hp) (D:zoe),Inv X pins σ H s->t D σ H->wpAny (model X.prog X.w) X.A (exec st X.env) (SP X pins D) X.xe s
def PSs (X:Cx) (st:List Stmt) (t:TS):Prop:=
 ∀ (pins:List (Addr×Obj)) (s:Shared) (σ:St) (H:Hp) (D:zoe),Inv X pins σ H s->t D σ H->wpAny (model X.prog X.w) X.A (execs st X.env) (SP X pins D) X.xe s
theorem thn {α:Type} {t:Sem α} {Q Q':α->Shared->Prop} {M:Model} {A:Around} {E:Value->Shared->Prop} {s:Shared} (h:wpAny M A t Q E s) (hQ: ∀ a s,Q a s->Q' a s):wpAny M A t Q' E s:=qaZ h hQ fun _ _ x=>x
section
variable {X:Cx}
noncomputable def zuw (i:Nat):TE:=fun σ H Q=> ∃ v,σ[i]? = some (some v)/\Q v H
noncomputable def tC (v:V):TE:=fun _ H Q=>Q v H
theorem zn1 {i:Nat} {x:Str} {pos:Pos} (hN:X.N[i]? = some x) (hv:Vis X.env.scope x) (hd:(x==("__debug__":Str))=false:=by decide) (hcd:(x==("__classdict__":Str))=false:=by decide):PE X (.Name x pos) (zuw i):=by
 intro pins s σ H Q I h
 obtain ⟨v,e,h⟩:=h
 obtain ⟨m,hn,hl⟩:=I.loc
 obtain ⟨u,r,l⟩:=hl i x v hN e hv
 have fin:EP X pins σ Q u s:=⟨v,H,I,r,h⟩
 rcases l with ⟨hk,hm⟩ | ⟨hk,c,hc,hcell⟩
 ·exact wpAny_Name (wpAny_loadName_local I.ok.kind hk hn hm fin) hd
 ·rcases hk with hk | hk
  ·exact wpAny_Name (wpAny_loadName_cell I.ok.kind hk hc hcell fin) hd
  ·exact wpAny_Name (wpAny_loadName_free I.ok.kind hk hc hcell fin hcd) hd
theorem znY {i j pos}:PE X (.Constant (.int i) j pos) (tC (.int i)):=fun _ _ _ H _ I h=>wpAny_Constant_int ⟨.int i,H,I.tok _,⟨_,rfl⟩,h⟩
theorem zq2 {b j pos}:PE X (.Constant (.bool b) j pos) (tC (.bl b)):=fun _ _ _ H _ I h=>Constant_bool ⟨.bl b,H,I,rfl,h⟩
theorem zrZ {j pos}:PE X (.Constant .none j pos) (tC .non):=fun _ _ _ H _ I h=>Constant_none ⟨.non,H,I,rfl,h⟩
theorem zn0 {x j pos}:PE X (.Constant (.str x) j pos) (tC (.str x)):=fun _ _ _ H _ I h=>Calls.Constant_str ⟨.str x,H,I.tok _,⟨_,rfl⟩,h⟩
def Gl (X:Cx) (x:Str):Prop:=X.env.kindOf x=some .globalImplicit
theorem ziS {E:Value->Shared->Prop} {pins:List (Addr×Obj)} {s:Shared} {σ:St} {H:Hp} {x:Str} {u:Value} {pos:Pos} {Q:Value->Shared->Prop} (I:Inv X pins σ H s) (hg:Gl X x) (hm:X.mg x=some u) (h:Q u s)
  (hd:(x==("__debug__":Str))=false:=by decide):wpAny (model X.prog X.w) X.A (eval (.Name x pos) X.env) Q E s:=
 Calls.Name_function_global I.ok.kind hg (Calls.loadGlobal_global (by rw [I.ok.glob];exact I.mod.glob.keeps I.bk) hm h) hd
theorem zgj {E:Value->Shared->Prop} {pins:List (Addr×Obj)} {s:Shared} {σ:St} {H:Hp} {x:Str} {u:Value} {pos:Pos} {Q:Value->Shared->Prop} (I:Inv X pins σ H s) (hg:Gl X x) (hm:X.mg x=none) (hv:bootBuiltins x=some u) (h:Q u s)
  (hn:x≠"__name__":=by decide) (hd:(x==("__debug__":Str))=false:=by decide):wpAny (model X.prog X.w) X.A (eval (.Name x pos) X.env) Q E s:=by
 obtain ⟨mb,h1,h2⟩:=I.mod.blt
 exact Calls.Name_function_global I.ok.kind hg (Calls.loadGlobal_builtin (by rw [I.ok.glob];exact I.mod.glob.keeps I.bk) hm (by rw [I.ok.blt];exact h1.keeps I.bk) ((h2 x hn).trans hv) h) hd
theorem zkz {x:Str} {v:V} {u:Value} {pos:Pos} (hg:Gl X x) (hm:X.mg x=some u) (r:zb5 v u) (hd:(x==("__debug__":Str))=false:=by decide):PE X (.Name x pos) (tC v):=
 fun _ _ _ H _ I h=>ziS I hg hm ⟨v,H,I,r,h⟩ hd
theorem zpz {x:Str} {v:V} {u:Value} {pos:Pos} (hg:Gl X x) (hm:X.mg x=none) (hv:bootBuiltins x=some u) (r:zb5 v u) (hn:x≠"__name__":=by decide) (hd:(x==("__debug__":Str))=false:=by decide):PE X (.Name x pos) (tC v):=
 fun _ _ _ H _ I h=>zgj I hg hm hv ⟨v,H,I,r,h⟩ hn hd
noncomputable def t2I (ta tb:TE) (k:Int->Int->Hp->Prop):St->Hp->Prop:=fun σ H=>ta σ H fun x H1=>tb σ H1 fun y H2=> ∃ i j,x= .int i/\y= .int j/\k i j H2
variable {a b:Expr} {ta tb:TE} {pos:Pos}
noncomputable def zc4 (p:Int->Int->Bool) (ta tb:TE):TE:=fun σ H Q=>t2I ta tb (fun i j H2=>Q (.bl (p i j)) H2) σ H
noncomputable def tB (t:TE):TT:=fun σ H Q=>t σ H fun x H1=> ∃ c,x= .bl c/\Q c H1
theorem zqL {e:Expr} {t:TE} (h:PE X e t) (he: ∀ whole,isTrue e X.env whole=(do let v<-whole;standAt e.pos;holding [v] (truthy v)):=by intro _;rfl):PT X e (tB t):=by
 intro pins s σ H Q I hw
 refine isTrue_plain (thn (h pins s σ H _ I hw) fun v s1 ⟨x,H1,I1,r1,q1⟩=> ?_) (he _)
 obtain ⟨d,rfl,q⟩:=q1
 cases r1
 exact wpAny_truthy_bool ⟨H1,I1,q⟩
variable {tA tB':TT} {rest:List Expr}
noncomputable def zqr (t u:TT):TT:=fun σ H Q=>t σ H fun c H1=>if c=true then u σ H1 Q else Q false H1
noncomputable def tOr (t u:TT):TT:=fun σ H Q=>t σ H fun c H1=>if c=true then Q true H1 else u σ H1 Q
noncomputable def zkd (t:TT):TT:=fun σ H Q=>t σ H fun c H1=>Q (!c) H1
theorem pw_and1 (ha:PT X a tA):PW X (.BoolOp .And [a] pos) tA:=by
 intro wh pins s σ H Q I h
 refine isTrue_and (thn (ha pins s σ H Q I h) fun c s1 e=> ?_)
 cases c with
 | true=>exact isTrue_and_nil e
 | false=>exact e
theorem pw_or1 (ha:PT X a tA):PW X (.BoolOp .Or [a] pos) tA:=by
 intro wh pins s σ H Q I h
 refine isTrue_or (thn (ha pins s σ H Q I h) fun c s1 e=> ?_)
 cases c with
 | false=>exact isTrue_or_nil e
 | true=>exact e
theorem pw_and (ha:PT X a tA) (hb:PW X (.BoolOp .And (b::rest) pos) tB'):PW X (.BoolOp .And (a::b::rest) pos) (zqr tA tB'):=by
 intro wh pins s σ H Q I h
 refine isTrue_and (thn (ha pins s σ H _ I h) fun c s1 ⟨H1,I1,q1⟩=> ?_)
 cases c with
 | true=>exact hb wh pins s1 σ H1 Q I1 q1
 | false=>exact ⟨H1,I1,q1⟩
theorem pw_or (ha:PT X a tA) (hb:PW X (.BoolOp .Or (b::rest) pos) tB'):PW X (.BoolOp .Or (a::b::rest) pos) (tOr tA tB'):=by
 intro wh pins s σ H Q I h
 refine isTrue_or (thn (ha pins s σ H _ I h) fun c s1 ⟨H1,I1,q1⟩=> ?_)
 cases c with
 | true=>exact ⟨H1,I1,q1⟩
 | false=>exact hb wh pins s1 σ H1 Q I1 q1
theorem zr6 (ha:PT X a tA):PT X (.UnaryOp .Not a pos) (zkd tA):=by
 intro pins s σ H Q I h
 exact isTrue_not (ha pins s σ H (fun c H1=>Q (!c) H1) I h)
noncomputable def ztO (ta tb:TE):TE:=fun σ H Q=>ta σ H fun x H1=> ∃ c,x= .bl c/\if c=true then tb σ H1 Q else Q (.bl false) H1
noncomputable def zuC (ta tb:TE):TE:=fun σ H Q=>ta σ H fun x H1=> ∃ c,x= .bl c/\if c=true then Q (.bl true) H1 else tb σ H1 Q
noncomputable def ztF (ta:TE):TE:=fun σ H Q=>ta σ H fun x H1=> ∃ c,x= .bl c/\Q (.bl (!c)) H1
theorem zqB {op} {t:TE} (h:PE X a t):PE X (.BoolOp op [a] pos) t:=fun pins s σ H Q I hw=>BoolOp_one (h pins s σ H Q I hw)
theorem zqY (ha:PE X a ta) (hb:PE X (.BoolOp .And (b::rest) pos) tb):PE X (.BoolOp .And (a::b::rest) pos) (ztO ta tb):=by
 intro pins s σ H Q I h
 refine BoolOp_and (thn (ha pins s σ H _ I h) fun v s1 ⟨x,H1,I1,r1,q1⟩=> ?_)
 obtain ⟨c,rfl,q1⟩:=q1
 cases r1
 refine wpAny_truthy_bool ?_
 cases c with
 | true=>exact hb pins s1 σ H1 Q I1 q1
 | false=>exact ⟨.bl false,H1,I1,rfl,q1⟩
theorem ztG (ha:PE X a ta) (hb:PE X (.BoolOp .Or (b::rest) pos) tb):PE X (.BoolOp .Or (a::b::rest) pos) (zuC ta tb):=by
 intro pins s σ H Q I h
 refine BoolOp_or (thn (ha pins s σ H _ I h) fun v s1 ⟨x,H1,I1,r1,q1⟩=> ?_)
 obtain ⟨c,rfl,q1⟩:=q1
 cases r1
 refine wpAny_truthy_bool ?_
 cases c with
 | false=>exact hb pins s1 σ H1 Q I1 q1
 | true=>exact ⟨.bl true,H1,I1,rfl,q1⟩
theorem zrw (ha:PE X a ta):PE X (.UnaryOp .Not a pos) (ztF ta):=by
 intro pins s σ H Q I h
 refine UnaryOp_ (thn (ha pins s σ H _ I h) fun v s1 ⟨x,H1,I1,r1,q1⟩=> ?_)
 obtain ⟨c,rfl,q1⟩:=q1
 cases r1
 exact not_of (wpAny_truthy_bool ⟨.bl (!c),H1,I1,rfl,q1⟩)
end
def SqL (K:W.Frag) (H:Hp) (a:Addr) (xs:List V):Prop:=
 Rd H a (.lst xs)\/
  ∃ (o:Obj) (its:Array Value) (n:Nat),K.lookup a=some o/\o.cls= .type "list"/\o.dict=none/\o.data= .seq its n/\its.size<=sizeLine/\za7 xs its.toList
def SqT (K:W.Frag) (H:Hp) (a:Addr) (xs:List V):Prop:=
 Rd H a (.tup xs)\/
  ∃ (o:Obj) (its:Array Value) (n:Nat),K.lookup a=some o/\o.cls= .type "tuple"/\o.data= .seq its n/\its.size<=sizeLine/\za7 xs its.toList
noncomputable def zuR:Value->Option V
 | .none=>some .non
 | .bool b=>some (.bl b)
 | .int i _=>some (.int i)
 | .str x _=>some (.str x)
 | .bytes b _=>some (.byt b)
 | .float b _=>some (.flt b)
 | .ref a=>some (.ref a)
 | .type n=>some (.ty n)
 | _=>none
theorem zb5.abs {x:V} {u:Value} (r:zb5 x u):zuR u=some x:=by
 cases x with
 | non=>cases r;rfl
 | bl _=>cases r;rfl
 | int _=>obtain ⟨t,rfl⟩:=r;rfl
 | str _=>obtain ⟨t,rfl⟩:=r;rfl
 | byt _=>obtain ⟨t,rfl⟩:=r;rfl
 | flt _=>obtain ⟨t,rfl⟩:=r;rfl
 | ref _=>cases r;rfl
 | ty _=>cases r;rfl
theorem zb5.inj {x y:V} {u:Value} (r:zb5 x u) (q:zb5 y u):x=y:=Option.some.inj (r.abs.symm.trans q.abs)
theorem za7.inj: ∀ {xs ys:List V} {us:List Value},za7 xs us->za7 ys us->xs=ys
 | _,_,_,.nil,.nil=>rfl
 | _,_,_,.cons r t,.cons r' t'=>by rw [r.inj r',za7.inj t t']
section
variable {X:Cx} {pins:List (Addr×Obj)} {σ:St} {H:Hp} {s:Shared} {a:Addr} {xs ys:List V}
theorem SqL.of {K:W.Frag} (h:H a=some (.lst xs)):SqL K H a xs:= .inl (.inl h)
theorem SqT.of {K:W.Frag} (h:H a=some (.tup xs)):SqT K H a xs:= .inl (.inl h)
theorem Inv.list (I:Inv X pins σ H s) (h:SqL X.K H a xs): ∃ its:List Value,za7 xs its/\PlainL s.heap a its.toArray/\xs.length<=sizeLine:=by
 rcases h with h | ⟨o,its,n,hk,hc,hd,hs,hz,r⟩
 ·obtain ⟨z,its,n,r,e⟩:=h.ok I.hok
  exact ⟨its,r,⟨_,n,e,rfl,rfl,rfl⟩,z⟩
 ·refine ⟨its.toList,r,⟨o,n,I.kIn a o hk,hc,hd,by simpa using hs⟩,?_⟩
  have e:=r.length
  simp only [qas] at e
  omega
theorem Inv.tuple (I:Inv X pins σ H s) (h:SqT X.K H a xs): ∃ its:List Value,za7 xs its/\IsTup s.heap a its.toArray/\xs.length<=sizeLine:=by
 rcases h with h | ⟨o,its,n,hk,hc,hs,hz,r⟩
 ·obtain ⟨z,its,r,p⟩:=h.ok I.hok
  exact ⟨its,r,p,z⟩
 ·refine ⟨its.toList,r,⟨o,I.kIn a o hk,hc,n,by simpa using hs⟩,?_⟩
  have e:=r.length
  simp only [qas] at e
  omega
theorem Inv.list_inj (I:Inv X pins σ H s) (h:SqL X.K H a xs) (h':SqL X.K H a ys):xs=ys:=by
 obtain ⟨its,r,⟨o,n,e,_,_,d⟩,_⟩:=I.list h
 obtain ⟨its',r',⟨o',n',e',_,_,d'⟩,_⟩:=I.list h'
 rw [e] at e';cases e'
 rw [d] at d'
 injection d' with d1 _
 have:its=its':=by simpa using congrArg Array.toList d1
 subst this
 exact r.inj r'
theorem Inv.tuple_inj (I:Inv X pins σ H s) (h:SqT X.K H a xs) (h':SqT X.K H a ys):xs=ys:=by
 obtain ⟨its,r,⟨o,e,_,n,d⟩,_⟩:=I.tuple h
 obtain ⟨its',r',⟨o',e',_,n',d'⟩,_⟩:=I.tuple h'
 rw [e] at e';cases e'
 rw [d] at d'
 injection d' with d1 _
 have:its=its':=by simpa using congrArg Array.toList d1
 subst this
 exact r.inj r'
end
noncomputable abbrev Cx.wish (X:Cx) (E:Value->Shared->Prop):Cx:={X with xe:=E}
noncomputable abbrev Cx.nox (X:Cx):Cx:=X.wish fun _ _=>False
theorem Cx.Ok.wish {X:Cx} (ok:X.Ok) (E:Value->Shared->Prop):(X.wish E).Ok:=
 ⟨ok.mod,ok.kind,ok.glob,ok.blt,ok.above,ok.inj,ok.has,ok.cab,ok.hd,ok.hx,ok.frames,ok.stk,ok.exf,ok.bs,ok.bsz,ok.noex,ok.exfs,ok.funs,ok.frf⟩
theorem Cx.Ok.unwish {X:Cx} {E:Value->Shared->Prop} (ok:(X.wish E).Ok):X.Ok:=
 ⟨ok.mod,ok.kind,ok.glob,ok.blt,ok.above,ok.inj,ok.has,ok.cab,ok.hd,ok.hx,ok.frames,ok.stk,ok.exf,ok.bs,ok.bsz,ok.noex,ok.exfs,ok.funs,ok.frf⟩
section
variable {X:Cx} {pins:List (Addr×Obj)} {σ:St} {H:Hp} {s:Shared} {E:Value->Shared->Prop}
theorem Inv.wish (I:Inv X pins σ H s) (E:Value->Shared->Prop):Inv (X.wish E) pins σ H s:=⟨I.ok.wish E,I.os,I.bare,I.base,I.loc,I.cell,I.free,I.freeC,I.pin,I.hok,I.len⟩
theorem Inv.unwish (I:Inv (X.wish E) pins σ H s):Inv X pins σ H s:=⟨I.ok.unwish,I.os,I.bare,I.base,I.loc,I.cell,I.free,I.freeC,I.pin,I.hok,I.len⟩
theorem SP.unwish {D:zoe} {f:Flow} {s':Shared} (h:SP (X.wish E) pins D f s'):SP X pins D f s':=by
 cases f with
 | next=>obtain ⟨σ',H',I,q⟩:=h;exact ⟨σ',H',I.unwish,q⟩
 | brk=>obtain ⟨σ',H',I,q⟩:=h;exact ⟨σ',H',I.unwish,q⟩
 | cont=>obtain ⟨σ',H',I,q⟩:=h;exact ⟨σ',H',I.unwish,q⟩
 | ret u=>obtain ⟨v,σ',H',I,r,q⟩:=h;exact ⟨v,σ',H',I.unwish,r,q⟩
theorem PE.nox {e:Expr} {t:TE} (h:PE X.nox e t):PE X e t:=fun pins s σ H Q I hw=>
 qaZ (h pins s σ H Q (I.wish _) hw) (fun _ _ ⟨v,H',I',r,q⟩=>⟨v,H',I'.unwish,r,q⟩) fun _ _ z=>qa0 z
theorem PT.nox {e:Expr} {t:TT} (h:PT X.nox e t):PT X e t:=fun pins s σ H Q I hw=>
 qaZ (h pins s σ H Q (I.wish _) hw) (fun _ _ ⟨H',I',q⟩=>⟨H',I'.unwish,q⟩) fun _ _ z=>qa0 z
theorem PSs.nox {st:List Stmt} {t:TS} (h:PSs X.nox st t):PSs X st t:=fun pins s σ H D I hw=>
 qaZ (h pins s σ H D (I.wish _) hw) (fun _ _ q=>q.unwish) fun _ _ z=>qa0 z
end
section
variable {X:Cx} {st:Stmt} {rest:List Stmt} {t u:TS} {e:Expr} {te:TE} {pos:Pos}
noncomputable def ztw:TS:=fun D σ H=>D.nx σ H
noncomputable def zuW (t u:TS):TS:=fun D σ H=>t {D with nx:=u D} σ H
theorem zoM:PSs X [] ztw:=fun _ _ σ H _ I h=>wpAny_execs_nil ⟨σ,H,I,h⟩
theorem zmW (h1:PS X st t) (h2:PSs X rest u):PSs X (st::rest) (zuW t u):=by
 intro pins s σ H D I h
 refine wpAny_execs_cons (thn (h1 pins s σ H {D with nx:=u D} I h) fun f s1 q=> ?_)
 cases f with
 | next=>
  obtain ⟨σ',H',I',q⟩:=q
  exact h2 pins s1 σ' H' D I' q
 | ret v=>exact q
 | brk=>exact q
 | cont=>exact q
theorem zpw (h1:PS X st t):PSs X [st] t:=by
 intro pins s σ H D I h
 refine wpAny_execs_cons (thn (h1 pins s σ H D I h) fun f s1 q=> ?_)
 cases f with
 | next=>exact wpAny_execs_nil q
 | ret v=>exact q
 | brk=>exact q
 | cont=>exact q
theorem Inv.quiet {pins:List (Addr×Obj)} {σ:St} {H:Hp} {s:Shared} (I:Inv X pins σ H s):interactive X.env=false:=by simp [interactive,I.ok.kind]
noncomputable def zt1 (te:TE):TS:=fun D σ H=>te σ H fun _ H1=>D.nx σ H1
theorem zpW (he:PE X e te) (hs:swapsWith e none pos.line X.env=pure false:=by rfl):PS X (.Expr e pos) (zt1 te):=by
 intro pins s σ H D I h
 exact wpAny_Expr_any (thn (he pins s σ H _ I h) fun v s1 ⟨x,H1,I1,r1,q1⟩=>⟨σ,H1,I1,q1⟩) I.quiet hs
noncomputable def zuH (te:TE):TS:=fun D σ H=>te σ H D.rt
theorem zqO (he:PE X e te):PS X (.Return (some e) pos) (zuH te):=by
 intro pins s σ H D I h
 exact wpAny_Return_some (thn (he pins s σ H _ I h) fun v s1 ⟨x,H1,I1,r1,q1⟩=>⟨x,σ,H1,I1,r1,q1⟩)
noncomputable def zuY (c:TT) (t u:TS):TS:=fun D σ H=>c σ H fun b H1=>if b=true then t D σ H1 else u D σ H1
theorem zud {c:Expr} {a b:List Stmt} {tc:TT} (hc:PT X c tc) (ha:PSs X a t) (hb:PSs X b u):PS X (.If c a b pos) (zuY tc t u):=by
 intro pins s σ H D I h
 refine wpAny_If (thn (hc pins s σ H _ I h) fun d s1 ⟨H1,I1,q1⟩=> ?_)
 cases d with
 | true=>exact ha pins s1 σ H1 D I1 q1
 | false=>exact hb pins s1 σ H1 D I1 q1
end
noncomputable abbrev TG:=V->St->Hp->(St->Hp->Prop)->Prop
noncomputable abbrev TGs:=List V->St->Hp->(St->Hp->Prop)->Prop
def PG (X:Cx) (target:Expr) (t:TG):Prop:=
 ∀ (pins:List (Addr×Obj)) (s:Shared) (σ:St) (H:Hp) (v:V) (u:Value) (Q:St->Hp->Prop),Inv X pins σ H s->zb5 v u->t v σ H Q->
  wpAny (model X.prog X.w) X.A (assign target X.env u) (fun _ s'=> ∃ σ' H',Inv X pins σ' H' s'/\Q σ' H') X.xe s
def PGs (X:Cx) (ts:List Expr) (t:TGs):Prop:=
 ∀ (pins:List (Addr×Obj)) (s:Shared) (σ:St) (H:Hp) (vs:List V) (us:List Value) (Q:St->Hp->Prop),Inv X pins σ H s->za7 vs us->t vs σ H Q->
  wpAny (model X.prog X.w) X.A (assignInOrder ((assignEach ts X.env).map (·.2)) us) (fun _ s'=> ∃ σ' H',Inv X pins σ' H' s'/\Q σ' H') X.xe s
noncomputable abbrev zsT:=V->V->V->Hp->(Hp->Prop)->Prop
def zqu (X:Cx) (t:zsT):Prop:=
 ∀ (pins:List (Addr×Obj)) (s:Shared) (σ:St) (H:Hp) (o i v:V) (ov iv u:Value) (Q:Hp->Prop),Inv X pins σ H s->zb5 o ov->zb5 i iv->zb5 v u->t o i v H Q->
  wpAny (model X.prog X.w) X.A (setItem ov iv u) (fun _ s'=> ∃ H',Inv X pins σ H' s'/\Q H') X.xe s
section
variable {X:Cx} {pos:Pos}
noncomputable def zp3 (i:Nat):TG:=fun v σ H Q=>Q (σ.set i (some v)) H
theorem zpG {i:Nat} {x:Str} (hN:X.N.Nodup) (hi:X.N[i]? = some x) (hx:Loc X.env.scope x) (hf:X.fn x=true\/X.env.scope.names.lookup x=some .local:=by first | exact .inl rfl | exact .inr rfl | assumption):PG X (.Name x pos) (zp3 i):=by
 intro pins s σ H v u Q I r h
 exact wpAny_assign_Name (zfg I hN hi hx r (fun s' I'=>⟨_,H,I',h⟩) hf)
noncomputable def zuA:TGs:=fun vs σ H Q=>vs=[]/\Q σ H
noncomputable def ztx (t:TG) (u:TGs):TGs:=fun vs σ H Q=> ∃ v r,vs=v::r/\t v σ H fun σ' H'=>u r σ' H' Q
theorem zqb:PGs X [] zuA:=by
 intro pins s σ H vs us Q I r h
 obtain ⟨e,h⟩:=h
 subst e
 cases r
 exact assignInOrder_nil ⟨σ,H,I,h⟩
theorem znp {e:Expr} {es:List Expr} {t:TG} {u:TGs} (h1:PG X e t) (h2:PGs X es u)
  (hs:(assignEach (e::es) X.env).map (·.2)=assign e X.env::(assignEach es X.env).map (·.2):=by rfl):PGs X (e::es) (ztx t u):=by
 intro pins s σ H vs us Q I r h
 obtain ⟨v,vr,e1,h⟩:=h
 subst e1
 cases r with
 | cons r rr=>
  rw [hs]
  refine assignInOrder_cons (thn (h1 pins s σ H _ _ _ I r h) fun _ s1 ⟨σ1,H1,I1,q1⟩=> ?_)
  exact h2 pins s1 σ1 H1 _ _ Q I1 rr q1
noncomputable def zuB (K:W.Frag) (n:Nat) (t:TGs):TG:=fun v σ H Q=> ∃ a xs,v= .ref a/\SqT K H a xs/\xs.length=n/\t xs σ H Q
theorem zsZ {es:List Expr} {k:Nat} {t:TGs} {n:Nat} (hc:X.calm=true) (h:PGs X es t)
  (hn:(assignEach es X.env).length=n:=by rfl) (hst:(assignEach es X.env).findIdx? (·.1)=none:=by rfl):PG X (.Tuple es k pos) (zuB X.K n t):=by
 intro pins s σ H v u Q I r hw
 obtain ⟨a,xs,e1,hq,hl,hw⟩:=hw
 subst e1
 cases r
 obtain ⟨its,rv,ht,hz⟩:=I.tuple hq
 refine assign_Tuple_tuple (I.ok.hd hc) ht (by simp [hn, <-hl,rv.length]) hst fun h' hx=> ?_
 have I1:Inv X pins σ H {s with heap:=h'}:=I.kept (t':=s.toks) fun b o e=>hx b o (qaR (qaQ e)) e
 exact h pins _ σ H xs _ Q I1 (by simpa using rv) hw
noncomputable def zup (to ti:TE) (t:zsT):TG:=fun v σ H Q=>to σ H fun o H1=>ti σ H1 fun i H2=>t o i v H2 fun H3=>Q σ H3
theorem zrd {o i:Expr} {to ti:TE} {t:zsT} (ho:PE X o to) (hi:PE X i ti) (hs:zqu X t)
  (ha: ∀ v,assign (.Subscript o i pos) X.env v=(do
    let ov<-holding [v] (eval o X.env)
    let iv<-holding [v,ov] (eval i X.env)
    standAt pos
    holding [v,ov,iv] (setItem ov iv v)
    release [v,ov,iv] []):=by intro _;rfl):PG X (.Subscript o i pos) (zup to ti t):=by
 intro pins s σ H v u Q I r h
 rw [ha]
 refine qaW (qaO (thn (ho pins s σ H _ I h) fun ov s1 ⟨x,H1,I1,r1,q1⟩=> ?_))
 refine qaW (qaO (thn (hi pins s1 σ H1 _ I1 q1) fun iv s2 ⟨y,H2,I2,r2,q2⟩=> ?_))
 refine qaW (wpAny_standAt (qaW (qaO (thn (hs pins s2 σ H2 x y v ov iv u _ I2 r1 r2 r q2) fun _ s3 ⟨H3,I3,q3⟩=> ?_))))
 exact wpAny_release ⟨σ,H3,I3,q3⟩
noncomputable def ztl (te:TE) (g:TG):TS:=fun D σ H=>te σ H fun x H1=>g x σ H1 D.nx
theorem zr7 {tg e:Expr} {te:TE} {g:TG} (he:PE X e te) (hg:PG X tg g) (hs:swapsWithSole [tg] e pos.line X.env=pure false:=by rfl) (hw:swappedStores [tg] e X.env=pure none:=by rfl)
  (h1:(assignEach [tg] X.env).map (·.2)=[assign tg X.env]:=by rfl):PS X (.Assign [tg] e pos) (ztl te g):=by
 intro pins s σ H D I h
 refine wpAny_Assign_stores (thn (he pins s σ H _ I h) fun v s1 ⟨x,H1,I1,r1,q1⟩=> ?_) hs hw
 rw [h1]
 exact thn (hg pins s1 σ H1 x v _ I1 r1 q1) fun _ s2 q=>q
theorem zqv {i:Nat} {x:Str} {e:Expr} {te:TE} {pos':Pos} (hN:X.N.Nodup) (hi:X.N[i]? = some x) (hx:Loc X.env.scope x) (he:PE X e te) (hs:swapsWith e (some (.Name x pos')) pos.line X.env=pure false:=by rfl) (hf:X.fn x=true\/X.env.scope.names.lookup x=some .local:=by first | exact .inl rfl | exact .inr rfl | assumption):
  PS X (.Assign [.Name x pos'] e pos) (ztl te (zp3 i)):=by
 intro pins s σ H D I h
 refine wpAny_Assign_Name (thn (he pins s σ H _ I h) fun v s1 ⟨y,H1,I1,r1,q1⟩=> ?_) hs
 exact zfg I1 hN hi hx r1 (fun s2 I2=>⟨_,H1,I2,q1⟩) hf
end
section
variable {X:Cx} {pos:Pos}
noncomputable def zqy (c:TT) (tb:TS):TS:=fun D σ H=> ∃ W:Nat->St->Hp->Prop,(∃ m,W m σ H)/\ ∀ m σ H,W m σ H->
 c σ H fun b H1=>if b=true then ∃ N:St->Hp->Prop,(∀ σ' H',N σ' H'-> ∃ m',m'<m/\W m' σ' H')/\tb {D with nx:=N,ct:=N,bk:=D.nx} σ H1 else D.nx σ H1
theorem zmY {c:Expr} {body:List Stmt} {tc:TT} {tb:TS} (hp:PassesOwn (model X.prog X.w) X.A X.env X.xe) (hc:PT X c tc) (hb:PSs X body tb):PS X (.While c body [] pos) (zqy tc tb):=by
 intro pins s σ H D I h
 obtain ⟨W,⟨m0,w0⟩,turn⟩:=h
 refine wpAny_While (codeAny_whileLoop (fun n s'=> ∃ σ' H',Inv X pins σ' H' s'/\W n σ' H') ?_ m0 ⟨σ,H,I,w0⟩)
 rintro n s1 ⟨σ1,H1,I1,w1⟩
 refine wpAny_passesOwn hp (thn (hc pins s1 σ1 H1 _ I1 (turn n σ1 H1 w1)) fun b s2 ⟨H2,I2,q2⟩=> ?_)
 cases b with
 | true=>
  obtain ⟨N,hN,q2⟩:=q2
  rw [qa4 rfl]
  refine wpAny_passesOwn hp (thn (hb pins s2 σ1 H2 _ I2 q2) fun f s3 q3=> ?_)
  cases f with
  | next=>
   obtain ⟨σ3,H3,I3,n3⟩:=q3
   obtain ⟨m',hm,w3⟩:=hN σ3 H3 n3
   exact ⟨m',hm,σ3,H3,I3,w3⟩
  | cont=>
   obtain ⟨σ3,H3,I3,n3⟩:=q3
   obtain ⟨m',hm,w3⟩:=hN σ3 H3 n3
   exact ⟨m',hm,σ3,H3,I3,w3⟩
  | brk=>exact q3
  | ret v=>exact q3
 | false=>
  rw [qa5 Bool.false_ne_true]
  exact wpAny_execs_nil ⟨σ1,H2,I2,q2⟩
end
structure It where
 go:Nat->Hp->Prop
 yld:Nat->Hp->V->Hp->Prop
 stop:Nat->Hp->Prop
def zia (X:Cx) (pins:List (Addr×Obj)) (H:Hp) (b:Addr):Prop:=
 H b=none/\b≠X.env.locals/\b∉X.fs/\(b∈X.ex\/X.s₀.heap.objs.size<=b)/\(∀ x c,X.env.cells.lookup x=some c->c≠b)/\ ∀ p∈X.pn++pins,p.1≠b
theorem Inv.fpOk {X:Cx} {pins:List (Addr×Obj)} {σ:St} {H H':Hp} {s:Shared} {b:Addr} (I:Inv X pins σ H s) (hb:s.heap.objs.size<=b) (hn:H' b=none):zia X pins H' b:=by
 refine ⟨hn,Nat.ne_of_gt (qaw I.lt hb),I.nofs hb,.inr (qaS I.sz hb),fun x c e z=> ?_,fun p hp z=> ?_⟩
 ·obtain ⟨v,q⟩:=I.cell x c e
  exact absurd (qaw q.lt (by rw [z];exact hb)) (qaN _)
 ·exact absurd (qaw (qaQ (I.pin p hp).1) (by rw [z];exact hb)) (qaN _)
structure zqm (P:Program) (w:World) (K:W.Frag) (tg:Expr) (J:It) (fp:List Addr) (it:Addr) (tn:Nat->Heap->Prop):Prop where
 mem:it∈fp
 obj: ∀ i h,tn i h-> ∀ b∈fp, ∃ o,h.get? b=some o/\ ∀ v,o.data≠ .cell v
 keep: ∀ i h h',tn i h->(∀ b∈fp, ∀ o,h.get? b=some o->h'.get? b=some o)->tn i h'
 item: ∀ (X:Cx),X.prog=P->X.w=w->X.K=K-> ∀ (i:Nat) (pins:List (Addr×Obj)) (s:Shared) (σ:St) (H:Hp) (E:Value->Shared->Prop),Inv X pins σ H s->(∀ b∈fp,zia X pins H b)->tn i s.heap->J.go i H->
  wpAny (model P w) X.A (pyNext (.ref it)) (fun r s1=> ∃ u,r=some u/\
    wpAny (model P w) X.A (letOwnedTupleGo tg (.ref it) u) (fun _ s2=> ∃ x H',Inv X pins σ H' s2/\zb5 x u/\J.yld i H x H'/\tn (i+1) s2.heap/\ ∀ b∈fp,H' b=none) E s1) E s
 done: ∀ (X:Cx),X.prog=P->X.w=w->X.K=K-> ∀ (i:Nat) (pins:List (Addr×Obj)) (s:Shared) (σ:St) (H:Hp) (E:Value->Shared->Prop),Inv X pins σ H s->(∀ b∈fp,zia X pins H b)->tn i s.heap->J.stop i H->
  wpAny (model P w) X.A (pyNext (.ref it)) (fun r s1=>r=none/\Inv X pins σ H s1) E s
 self: ∀ (A:Around) (i:Nat) (s:Shared) (Q:Value->Shared->Prop) (E:Value->Shared->Prop),tn i s.heap->Q (.ref it) s->wpAny (model P w) A (pyIter (.ref it)) Q E s
noncomputable abbrev TI:=St->Hp->(It->Hp->Prop)->Prop
def PIE (X:Cx) (pins:List (Addr×Obj)) (σ:St) (tg:Expr) (R:It->Hp->Prop) (itv:Value) (s2:Shared):Prop:=
 ∃ (it:Addr) (fp:List Addr) (tn:Nat->Heap->Prop) (J:It) (H':Hp),itv= .ref it/\Inv X pins σ H' s2/\zqm X.prog X.w X.K tg J fp it tn/\tn 0 s2.heap/\(∀ b∈fp,zia X pins H' b)/\R J H'
def PI (X:Cx) (tg iter:Expr) (wi:TI):Prop:=
 ∀ (pins:List (Addr×Obj)) (s:Shared) (σ:St) (H:Hp) (R:It->Hp->Prop),Inv X pins σ H s->wi σ H R->
  wpAny (model X.prog X.w) X.A (eval iter X.env) (fun v s1=>wpAny (model X.prog X.w) X.A (pyIter v) (PIE X pins σ tg R) X.xe s1) X.xe s
theorem zpO {M:Model} {A:Around} {E:Value->Shared->Prop} {s:Shared} {tg:Expr} {it:Addr} {u:Value} {o:Obj} {n:String} {vs:Array Value} {Q:Unit->Shared->Prop} (ho:s.heap.get? it=some o) (hc:o.cls= .type n) (hd:o.data= .fields vs)
  (hn:["enumerate","zip","dict_itemiterator","dict_reverseitemiterator","odict_iterator","itertools.zip_longest","itertools.pairwise"].contains n=false) (hQ:Q () s):wpAny M A (letOwnedTupleGo tg (.ref it) u) Q E s:=by
 unfold letOwnedTupleGo
 cases tg<;>first
  | exact qaX hQ
  | (cases u<;>first
      | exact qaX hQ
      | (refine qaW (wpAny_load ho ?_)
         rw [hc,hd]
         show wpAny M A (if (["enumerate","zip","dict_itemiterator","dict_reverseitemiterator","odict_iterator","itertools.zip_longest","itertools.pairwise"].contains n && vs[0]? == some (rawInt _))=true then _ else _) Q E s
         rw [qa5 (by intro h;rw [hn,Bool.false_and] at h;cases h)]
         exact qaX hQ))
noncomputable def Itl (K:W.Frag) (a:Addr):It:=
 ⟨fun i H=> ∃ xs x,SqL K H a xs/\xs[i]? = some x,fun i H x H'=>H'=H/\ ∀ xs,SqL K H a xs->xs[i]? = some x,fun i H=> ∃ xs,SqL K H a xs/\xs.length<=i⟩
noncomputable def Itt (K:W.Frag) (a:Addr):It:=
 ⟨fun i H=> ∃ xs x,SqT K H a xs/\xs[i]? = some x,fun i H x H'=>H'=H/\ ∀ xs,SqT K H a xs->xs[i]? = some x,fun i H=> ∃ xs,SqT K H a xs/\xs.length<=i⟩
noncomputable def Itr (lo:Int) (n:Nat):It:=⟨fun i _=>i<n,fun i H x H'=>H'=H/\x= .int (lo+i),fun i _=>n<=i⟩
theorem zhm.keep {A:Around} {H H':Hp} (x:zhm A H) (k: ∀ b o u,H b=some (.frz o u)->H' b=some (.frz o u)):zhm A H':=by
 rcases x with x | ⟨a,o,cls,head,vs,x1,x2,x3⟩
 ·exact .inl x
 ·exact .inr ⟨a,o,cls,head,vs,x1,k _ _ _ x2,x3⟩
theorem zhm.at_ {A:Around} {P:Program} {w:World} {H:Hp} {h:Heap} (x:zhm A H) (ok:HOk P w H h):L3.zkg A h:=by
 rcases x with x | ⟨a,o,cls,head,vs,x1,x2,x3⟩
 ·exact .inl x
 ·exact .inr ⟨a,cls,head,x1,o,vs,(ok a _ x2).1,x3⟩
theorem Inv.handA {X:Cx} {pins:List (Addr×Obj)} {σ:St} {H:Hp} {s:Shared} (I:Inv X pins σ H s):zhm X.A H:=I.ok.hx.keep I.base.frzs
theorem Inv.hand {X:Cx} {pins:List (Addr×Obj)} {σ:St} {H:Hp} {s:Shared} (I:Inv X pins σ H s):L3.zkg X.A s.heap:=I.handA.at_ I.hok
theorem zkG {P:Program} {w:World} {K:W.Frag} {tg:Expr} (a it:Addr):zqm P w K tg (Itl K a) [it] it (fun i h=>h.IsListIter it a i) where
 mem:=by simp
 obj:=fun i h st b hb=>by
  have e:b=it:=by simpa using hb
  subst e
  obtain ⟨o,e,c,d⟩:=st
  exact ⟨o,e,fun v z=>by rw [d] at z;cases z⟩
 keep:=fun i h h' st k=>st.at fun o e=>k it (by simp) o e
 item:=by
  intro X hP hw hK i pins s σ H E I hf st hg
  subst hP hw hK
  obtain ⟨xs,x,hq,hx⟩:=hg
  obtain ⟨its,rv,p,hz⟩:=I.list hq
  obtain ⟨u,hu,ru⟩:=rv.get hx
  obtain ⟨f0,f1,f2,f3,f4,f5⟩:=hf it (by simp)
  refine wpAny_pyNext_list_item st p.isList (x:=u) (by simpa using hu) fun h' st' sb=> ?_
  have I1:Inv X pins σ H {s with heap:=h'}:=I.turned (t':=s.toks) (fun b o hb e=>(sb.2 b hb).trans e) f0 f1 f3 f4 f5
  obtain ⟨o,e,c,d⟩:=id st'
  exact ⟨u,rfl,zpO (s:={s with heap:=h'}) e c d (by decide) ⟨x,H,I1,ru,⟨rfl,fun ys hy=>by rw [I.list_inj hy hq];exact hx⟩,st',fun b hb=>(hf b hb).1⟩⟩
 done:=by
  intro X hP hw hK i pins s σ H E I hf st hg
  subst hP hw hK
  obtain ⟨xs,hq,hx⟩:=hg
  obtain ⟨its,rv,p,hz⟩:=I.list hq
  obtain ⟨f0,f1,f2,f3,f4,f5⟩:=hf it (by simp)
  have hl:=rv.length
  exact L3.znF I.hand st p.isList (by simp;omega) fun h' eb=>⟨rfl,I.turned (t':=s.toks) (fun b o hb e=>eb b o hb e) f0 f1 f3 f4 f5⟩
 self:=fun _ _ _ _ _ st h=>wpAny_pyIter_listiter st h
theorem zjM {P:Program} {w:World} {K:W.Frag} {tg:Expr} (a it:Addr):zqm P w K tg (Itt K a) [it] it (fun i h=>h.IsTupleIter it a i) where
 mem:=by simp
 obj:=fun i h st b hb=>by
  have e:b=it:=by simpa using hb
  subst e
  obtain ⟨o,e,c,d⟩:=st
  exact ⟨o,e,fun v z=>by rw [d] at z;cases z⟩
 keep:=fun i h h' st k=>st.at fun o e=>k it (by simp) o e
 item:=by
  intro X hP hw hK i pins s σ H E I hf st hg
  subst hP hw hK
  obtain ⟨xs,x,hq,hx⟩:=hg
  obtain ⟨its,rv,p,hz⟩:=I.tuple hq
  obtain ⟨u,hu,ru⟩:=rv.get hx
  obtain ⟨f0,f1,f2,f3,f4,f5⟩:=hf it (by simp)
  refine wpAny_pyNext_tuple_item st (show s.heap.IsTuple a its.toArray from p) (x:=u) (by simpa using hu) fun h' st' sb=> ?_
  have I1:Inv X pins σ H {s with heap:=h'}:=I.turned (t':=s.toks) (fun b o hb e=>(sb.2 b hb).trans e) f0 f1 f3 f4 f5
  obtain ⟨o,e,c,d⟩:=id st'
  exact ⟨u,rfl,zpO (s:={s with heap:=h'}) e c d (by decide) ⟨x,H,I1,ru,⟨rfl,fun ys hy=>by rw [I.tuple_inj hy hq];exact hx⟩,st',fun b hb=>(hf b hb).1⟩⟩
 done:=by
  intro X hP hw hK i pins s σ H E I hf st hg
  subst hP hw hK
  obtain ⟨xs,hq,hx⟩:=hg
  obtain ⟨its,rv,p,hz⟩:=I.tuple hq
  obtain ⟨f0,f1,f2,f3,f4,f5⟩:=hf it (by simp)
  have hl:=rv.length
  exact L3.zlH I.hand st (show s.heap.IsTuple a its.toArray from p) (by simp;omega) fun h' eb=>⟨rfl,I.turned (t':=s.toks) (fun b o hb e=>eb b o hb e) f0 f1 f3 f4 f5⟩
 self:=fun _ _ _ _ _ st h=>wpAny_pyIter_tupleiter st h
theorem zj0 {P:Program} {w:World} {K:W.Frag} {tg:Expr} (it:Addr) (lo:Int) (n:Nat):zqm P w K tg (Itr lo n) [it] it (fun i h=>IsRangeIter h it (lo+(i:Nat)*1) ((n:Int) - (i:Nat)) 1) where
 mem:=by simp
 obj:=fun i h st b hb=>by
  have e:b=it:=by simpa using hb
  subst e
  exact ⟨_,st,fun v z=>by
    have z':Data.fields _=Data.cell v:=z
    cases z'⟩
 keep:=fun i h h' st k=>k it (by simp) _ st
 item:=by
  intro X hP hw hK i pins s σ H E I hf st hg
  subst hP hw hK
  obtain ⟨f0,f1,f2,f3,f4,f5⟩:=hf it (by simp)
  refine wpAny_pyNext_range_item st (by have:i<n:=hg;omega) fun h' st' kk=> ?_
  have e1:lo+(i:Nat)*1+1=lo+((i+1:Nat):Int)*1:=by omega
  have e2:(n:Int) - (i:Nat) - 1=(n:Int) - ((i+1:Nat):Int):=by omega
  rw [e1,e2] at st'
  have I1:Inv X pins σ H {s with heap:=h',toks:=s.toks+1}:=I.turned (fun b o hb e=>(kk.2 b hb).trans e) f0 f1 f3 f4 f5
  refine ⟨_,rfl,zpO (s:={s with heap:=h',toks:=s.toks+1}) (n:="range_iterator") st' rfl rfl (by decide) ⟨.int (lo+i),H,I1,⟨s.toks,?_⟩,⟨rfl,rfl⟩,st',fun b hb=>(hf b hb).1⟩⟩
  rw [Int.mul_one]
 done:=by
  intro X hP hw hK i pins s σ H E I hf st hg
  subst hP hw hK
  obtain ⟨f0,f1,f2,f3,f4,f5⟩:=hf it (by simp)
  exact L3.zlV I.hand st (by have:n<=i:=hg;omega) fun h' eb=>⟨rfl,I.turned (t':=s.toks) (fun b o hb e=>eb b o hb e) f0 f1 f3 f4 f5⟩
 self:=fun _ _ _ _ _ st h=>wpAny_pyIter_rangeiter st h
section
variable {X:Cx} {tg:Expr}
theorem znI {pins:List (Addr×Obj)} {σ:St} {H:Hp} {s:Shared} {R:It->Hp->Prop} {E:Value->Shared->Prop} {lo hi:Int} {t u v:Tok} {tk:Nat} (I:Inv X pins σ H s) (h1: -(2^62)<=lo) (h2:lo<2^62) (h3: -(2^62)<=hi) (h4:hi<2^62)
  (q:R (Itr lo (hi - lo).toNat) H):wpAny (model X.prog X.w) X.A (pyIter (.ref s.heap.objs.size)) (PIE X pins σ tg R) E {s with heap:=s.heap.push {cls:= .type "range",data:= .fields #[.int lo t,.int hi u,.int 1 v]},toks:=tk}:=by
 refine wpAny_pyIter_range (IsRange.new ..) (small_one h1 h2 h3 h4) ?_
 have I1:Inv X pins σ H {s with heap:=s.heap.push {cls:= .type "range",data:= .fields #[.int lo t,.int hi u,.int 1 v]},toks:=tk}:=I.kept fun b o e=>qag _ e
 refine ⟨(s.heap.push {cls:= .type "range",data:= .fields #[.int lo t,.int hi u,.int 1 v]}).objs.size,[(s.heap.push {cls:= .type "range",data:= .fields #[.int lo t,.int hi u,.int 1 v]}).objs.size],_,_,H,rfl,
   I1.kept (t':=tk) fun b o e=>qag _ e,zj0 _ lo (hi - lo).toNat,?_,fun b hb=> ?_,q⟩
 ·have e1:lo+((0:Nat):Int)*1=lo:=by simp
  have e2:(((hi - lo).toNat:Nat):Int) - ((0:Nat):Int)=Builtin.Range.rangeSize lo hi 1:=by rw [rangeSize_one];split<;>omega
  show IsRangeIter _ _ (lo+((0:Nat):Int)*1) ((((hi - lo).toNat:Nat):Int) - ((0:Nat):Int)) 1
  rw [e1,e2]
  exact qar _ rfl
 ·have e:b=(s.heap.push {cls:= .type "range",data:= .fields #[.int lo t,.int hi u,.int 1 v]}).objs.size:=by simpa using hb
  subst e
  exact I1.fpOk (qaV _) (I1.hok.fresh (qaV _))
noncomputable def ztB (ta:TA):TI:=fun σ H R=>ta σ H fun vs H1=> ∃ j:Int,vs=[.int j]/\ -(2^62)<=j/\j<2^62/\R (Itr 0 j.toNat) H1
theorem zlI {a:Expr} {ta:TA} {p pos:Pos} (hg:Gl X "range") (hm:X.mg "range"=none) (ha:PA X [a] ta) (hs:starEach [a] X.env=[(false,eval a X.env)]:=by rfl):PI X tg (.Call (.Name "range" p) [a] [] pos) (ztB ta):=by
 intro pins s σ H R I h
 refine Call_ (zgj I hg hm boot_range (PyProof.Rows.callWith_type1 (thn (ha pos pins s σ H _ I h) fun us s1 ⟨vs,H1,I1,r1,q1⟩=> ?_) hs rfl))
 obtain ⟨j,e,q1,q2,q⟩:=q1
 subst e
 cases r1 with
 | cons r rr=>
  cases rr
  obtain ⟨t,rfl⟩:=r
  exact call_range_1 (znI I1 (by omega) (by omega) q1 q2 (by simpa using q))
noncomputable def zuE (wi:TI) (g:TG) (tb:TS):TS:=fun D σ H=>wi σ H fun J H1=> ∃ W:Nat->Nat->St->Hp->Prop,(∃ m,W 0 m σ H1)/\ ∀ i m σ H,W i m σ H->
 (J.stop i H/\D.nx σ H)\/(J.go i H/\ ∃ N:St->Hp->Prop,(∀ σ' H',N σ' H'-> ∃ m',m'<m/\W (i+1) m' σ' H')/\ ∀ x H',J.yld i H x H'->g x σ H' fun σ2 H2=>tb {D with nx:=N,ct:=N,bk:=D.nx} σ2 H2)
noncomputable def zhQ (fp:List Addr) (h:Heap):List (Addr×Obj):=fp.filterMap fun b=>(h.get? b).map fun o=>(b,o)
theorem zdI {fp:List Addr} {h:Heap} {b:Addr} {o:Obj} (hb:b∈fp) (e:h.get? b=some o):(b,o)∈zhQ fp h:=List.mem_filterMap.mpr ⟨b,hb,by rw [e];rfl⟩
theorem zlU {fp:List Addr} {h:Heap} {p:Addr×Obj} (hp:p∈zhQ fp h):p.1∈fp/\h.get? p.1=some p.2:=by
 obtain ⟨b,hb,e⟩:=List.mem_filterMap.mp hp
 cases q:h.get? b with
 | none=>rw [q] at e;cases e
 | some o=>
  rw [q] at e
  have e':(b,o)=p:=Option.some.inj e
  subst e'
  exact ⟨hb,q⟩
theorem Inv.pinned {pins:List (Addr×Obj)} {σ:St} {H:Hp} {s:Shared} {fp:List Addr} (I:Inv X pins σ H s) (hf: ∀ b∈fp,zia X pins H b) (ho: ∀ b∈fp, ∃ o,s.heap.get? b=some o/\ ∀ v,o.data≠ .cell v):Inv X (pins++zhQ fp s.heap) σ H s:=
 I.pins_of fun p hp=>(qaK.mp hp).elim (fun z=>I.pin p (qak _ z)) fun z=>by
  obtain ⟨hb,e⟩:=zlU z
  obtain ⟨f0,f1,f2,_⟩:=hf p.1 hb
  obtain ⟨o,e',d⟩:=ho p.1 hb
  rw [e] at e';cases e'
  exact ⟨e,f0,f1,f2,d⟩
theorem Inv.unpinned {pins pl:List (Addr×Obj)} {σ:St} {H:Hp} {s:Shared} (I:Inv X (pins++pl) σ H s):Inv X pins σ H s:=I.pins_of fun p hp=>I.pin p (qak _ (List.mem_append_left _ hp))
theorem zrb {iter:Expr} {body:List Stmt} {wi:TI} {g:TG} {tb:TS} {pos:Pos} (hp:PassesOwn (model X.prog X.w) X.A X.env X.xe) (hc:X.calm=true) (hi:PI X tg iter wi) (hg:PG X tg g) (hb:PSs X body tb)
  (hs: ∀ x,foldedSetIterable iter X.env x=pure x:=by intro _;rfl):PS X (.For tg iter body [] pos) (zuE wi g tb):=by
 intro pins s σ H D I h
 refine wpAny_For (thn (hi pins s σ H _ I h) fun v s1 h1=>thn h1 fun itv s2 h2=> ?_) hs
 obtain ⟨it,fp,tn,J,H2,e,I2,T,st2,f2,W,⟨m0,w0⟩,turn⟩:=h2
 subst e
 have stat: ∀ {H':Hp},(∀ b∈fp,H' b=none)-> ∀ b∈fp,zia X pins H' b:=fun hn b hb=>⟨hn b hb,(f2 b hb).2⟩
 refine codeAny_forLoop_any (fun n s'=> ∃ i σ' H',Inv X pins σ' H' s'/\tn i s'.heap/\(∀ b∈fp,H' b=none)/\W i n σ' H') ?_ m0 ⟨0,σ,H2,I2,st2,fun b hb=>(f2 b hb).1,w0⟩
 rintro n s3 ⟨i,σ3,H3,I3,st3,fr3,w3⟩
 rcases turn i n σ3 H3 w3 with ⟨stop,qn⟩ | ⟨go,N,hN,step⟩
 ·refine wpAny_passesOwn hp (thn (T.done X rfl rfl rfl i pins s3 σ3 H3 X.xe I3 (stat fr3) st3 stop) fun r s4 ⟨hr,I4⟩=> ?_)
  subst hr
  exact wpAny_execs_nil ⟨σ3,H3,I4,qn⟩
 ·refine wpAny_passesOwn hp (thn (T.item X rfl rfl rfl i pins s3 σ3 H3 X.xe I3 (stat fr3) st3 go) fun r s4 ⟨u,hr,h4⟩=> ?_)
  subst hr
  refine wpAny_passesOwn hp (thn h4 fun _ s5 ⟨x,H5,I5,r5,y5,st5,fr5⟩=> ?_)
  have I5':=I5.pinned (stat fr5) (T.obj _ _ st5)
  refine wpAny_passesOwn hp (thn (hg _ s5 σ3 H5 x u _ I5' r5 (step x H5 y5)) fun _ s6 ⟨σ6,H6,I6,q6⟩=> ?_)
  refine wpAny_passesOwn hp (thn (hb _ s6 σ6 H6 _ I6 q6) fun f s7 q7=> ?_)
  have again: ∀ {σ7:St} {H7:Hp},Inv X (pins++zhQ fp s5.heap) σ7 H7 s7->N σ7 H7-> ∃ m,m<n/\ ∃ i σ' H',Inv X pins σ' H' s7/\tn i s7.heap/\(∀ b∈fp,H' b=none)/\W i m σ' H':=fun {σ7 H7} I7 n7=>by
   obtain ⟨m',hm,w7⟩:=hN σ7 H7 n7
   refine ⟨m',hm,i+1,σ7,H7,I7.unpinned,T.keep _ _ _ st5 fun b hb o e=>(I7.pin (b,o) (qak _ (qak _ (zdI hb e)))).1,fun b hb=> ?_,w7⟩
   obtain ⟨o,e,d⟩:=T.obj _ _ st5 b hb
   exact (I7.pin (b,o) (qak _ (qak _ (zdI hb e)))).2.1
  cases f with
  | next=>obtain ⟨σ7,H7,I7,n7⟩:=q7;exact again I7 n7
  | cont=>obtain ⟨σ7,H7,I7,n7⟩:=q7;exact again I7 n7
  | brk=>obtain ⟨σ7,H7,I7,q7⟩:=q7;exact ⟨σ7,H7,I7.unpinned,q7⟩
  | ret v=>obtain ⟨x7,σ7,H7,I7,r7,q7⟩:=q7;exact ⟨x7,σ7,H7,I7.unpinned,r7,q7⟩
end
noncomputable abbrev R2:=V->V->Hp->VK->Prop
def OpR (X:Cx) (f:Value->Value->Sem Value) (r:R2):Prop:=
 ∀ (pins:List (Addr×Obj)) (s:Shared) (σ:St) (H:Hp) (x y:V) (v u:Value) (Q:VK),Inv X pins σ H s->zb5 x v->zb5 y u->r x y H Q->
  wpAny (model X.prog X.w) X.A (f v u) (EP X pins σ Q) X.xe s
def UnR (X:Cx) (f:Value->Sem Value) (r:V->Hp->VK->Prop):Prop:=
 ∀ (pins:List (Addr×Obj)) (s:Shared) (σ:St) (H:Hp) (x:V) (v:Value) (Q:VK),Inv X pins σ H s->zb5 x v->r x H Q->
  wpAny (model X.prog X.w) X.A (f v) (EP X pins σ Q) X.xe s
def za0 (X:Cx) (f:Value) (r:List V->Hp->VK->Prop):Prop:=
 ∀ (pins:List (Addr×Obj)) (s:Shared) (σ:St) (H:Hp) (xs:List V) (us:List Value) (Q:VK),Inv X pins σ H s->za7 xs us->r xs H Q->
  wpAny (model X.prog X.w) X.A (call f us) (EP X pins σ Q) X.xe s
def zuL (X:Cx) (r:V->Hp->(Bool->Hp->Prop)->Prop):Prop:=
 ∀ (pins:List (Addr×Obj)) (s:Shared) (σ:St) (H:Hp) (x:V) (v:Value) (Q:Bool->Hp->Prop),Inv X pins σ H s->zb5 x v->r x H Q->
  wpAny (model X.prog X.w) X.A (truthy v) (TP X pins σ Q) X.xe s
noncomputable def tOp (r:R2) (ta tb:TE):TE:=fun σ H Q=>ta σ H fun x H1=>tb σ H1 fun y H2=>r x y H2 Q
noncomputable def tUn (r:V->Hp->VK->Prop) (ta:TE):TE:=fun σ H Q=>ta σ H fun x H1=>r x H1 Q
noncomputable def rI (C:Int->Int->Prop) (g:Int->Int->V):R2:=fun x y H Q=> ∃ i j,x= .int i/\y= .int j/\C i j/\Q (g i j) H
noncomputable def rI0 (g:Int->Int->V):R2:=fun x y H Q=> ∃ i j,x= .int i/\y= .int j/\Q (g i j) H
noncomputable def rU (g:Int->V):V->Hp->VK->Prop:=fun x H Q=> ∃ i,x= .int i/\Q (g i) H
section
variable {X:Cx} {a b c:Expr} {ta tb tc:TE} {pos:Pos}
theorem zum (ha:PE X a ta) (hb:PE X b tb) {pins:List (Addr×Obj)} {s:Shared} {σ:St} {H:Hp} {R:V->V->Hp->Prop} (I:Inv X pins σ H s)
  (h:ta σ H fun x H1=>tb σ H1 fun y H2=>R x y H2) {Q:Value->Shared->Prop} {f:Value->Value->Sem Value}
  (hf: ∀ v u s2 x y H2,Inv X pins σ H2 s2->zb5 x v->zb5 y u->R x y H2->wpAny (model X.prog X.w) X.A (f v u) Q X.xe s2):
  wpAny (model X.prog X.w) X.A (eval a X.env) (fun v s₁=>wpAny (model X.prog X.w) X.A (eval b X.env) (fun u s₂=>wpAny (model X.prog X.w) X.A (f v u) Q X.xe s₂) X.xe s₁) X.xe s:=by
 refine thn (ha pins s σ H _ I h) fun v s1 ⟨x,H1,I1,r1,q1⟩=> ?_
 refine thn (hb pins s1 σ H1 _ I1 q1) fun u s2 ⟨y,H2,I2,r2,q2⟩=> ?_
 exact hf v u s2 x y H2 I2 r1 r2 q2
theorem zt3 {op:Operator} {r:R2} (ho:OpR X (binaryOp op) r) (ha:PE X a ta) (hb:PE X b tb):PE X (.BinOp a op b pos) (tOp r ta tb):=by
 intro pins s σ H Q I h
 exact wpAny_BinOp (zum ha hb I h fun v u s2 x y H2 I2 rx ry q=>ho pins s2 σ H2 x y v u Q I2 rx ry q)
theorem zsd {op:UnaryOp} {r:V->Hp->VK->Prop} (ho:UnR X (unaryOp op) r) (ha:PE X a ta):PE X (.UnaryOp op a pos) (tUn r ta):=by
 intro pins s σ H Q I h
 exact UnaryOp_ (thn (ha pins s σ H _ I h) fun v s1 ⟨x,H1,I1,r1,q1⟩=>ho pins s1 σ H1 x v Q I1 r1 q1)
theorem opI {f:Value->Value->Sem Value} {C:Int->Int->Prop} {g:Int->Int->Int}
  (rule: ∀ (i j:Int) (t u:Tok) (s:Shared) (Q:Value->Shared->Prop) (E:Value->Shared->Prop),C i j->Q (.int (g i j) s.toks) {s with toks:=s.toks+1}->wpAny (model X.prog X.w) X.A (f (.int i t) (.int j u)) Q E s):
  OpR X f (rI C fun i j=> .int (g i j)):=by
 intro pins s σ H x y v u Q I rx ry h
 obtain ⟨i,j,rfl,rfl,hc,q⟩:=h
 obtain ⟨t,rfl⟩:=rx
 obtain ⟨t',rfl⟩:=ry
 exact rule i j t t' s _ _ hc ⟨.int (g i j),H,I.tok _,⟨_,rfl⟩,q⟩
theorem zur {f:Value->Value->Sem Value} {g:Int->Int->Int}
  (rule: ∀ (i j:Int) (t u:Tok) (s:Shared) (Q:Value->Shared->Prop) (E:Value->Shared->Prop),Q (.int (g i j) s.toks) {s with toks:=s.toks+1}->wpAny (model X.prog X.w) X.A (f (.int i t) (.int j u)) Q E s):
  OpR X f (rI0 fun i j=> .int (g i j)):=by
 intro pins s σ H x y v u Q I rx ry h
 obtain ⟨i,j,rfl,rfl,q⟩:=h
 obtain ⟨t,rfl⟩:=rx
 obtain ⟨t',rfl⟩:=ry
 exact rule i j t t' s _ _ ⟨.int (g i j),H,I.tok _,⟨_,rfl⟩,q⟩
theorem zs5 {f:Value->Value->Sem Value} {g:Int->Int->Bool}
  (rule: ∀ (i j:Int) (t u:Tok) (s:Shared) (Q:Value->Shared->Prop) (E:Value->Shared->Prop),Q (.bool (g i j)) s->wpAny (model X.prog X.w) X.A (f (.int i t) (.int j u)) Q E s):
  OpR X f (rI0 fun i j=> .bl (g i j)):=by
 intro pins s σ H x y v u Q I rx ry h
 obtain ⟨i,j,rfl,rfl,q⟩:=h
 obtain ⟨t,rfl⟩:=rx
 obtain ⟨t',rfl⟩:=ry
 exact rule i j t t' s _ _ ⟨.bl (g i j),H,I,rfl,q⟩
def zuj (i j:Int):Prop:=0<=j/\j<=1000000/\i.natAbs<2^64
def ztN (i j:Int):Prop:=(-(2^64)<i/\i<2^64)\/(-(2^64)<j/\j<2^64)
theorem ztN.ok {i j:Int} (h:ztN i j):IntMulOk i j:=by
 rcases h with ⟨h1,h2⟩ | ⟨h1,h2⟩
 ·exact .of_left (intBits_le_64 h1 h2)
 ·exact .of_right (intBits_le_64 h1 h2)
theorem zsC:OpR X (binaryOp .Add) (rI0 fun i j=> .int (i+j)):=zur fun _ _ _ _ _ _ _ q=>add_int q
theorem zru:OpR X (binaryOp .Sub) (rI0 fun i j=> .int (i - j)):=zur fun _ _ _ _ _ _ _ q=>sub_int q
theorem zsu:OpR X (binaryOp .Mult) (rI ztN fun i j=> .int (i*j)):=opI fun _ _ _ _ _ _ _ hc q=>mul_int q hc.ok
theorem zra:OpR X (binaryOp .Mod) (rI (fun _ j=>0<j) fun i j=> .int (i % j)):=opI fun i j _ _ _ _ _ hc q=>by
 have h1:(0:Int)<j:=hc
 exact mod_int' (by omega) (by rw [Int.fmod_eq_emod_of_nonneg i (by omega)];exact q)
theorem zsM:OpR X (binaryOp .Pow) (rI zuj fun i j=> .int (i^j.toNat)):=opI fun _ _ _ _ _ _ _ hc q=>pow_int_small hc.1 hc.2.1 hc.2.2 q
theorem unI {f:Value->Sem Value} {g:Int->Int}
  (rule: ∀ (i:Int) (t:Tok) (s:Shared) (Q:Value->Shared->Prop) (E:Value->Shared->Prop),Q (.int (g i) s.toks) {s with toks:=s.toks+1}->wpAny (model X.prog X.w) X.A (f (.int i t)) Q E s):
  UnR X f (rU fun i=> .int (g i)):=by
 intro pins s σ H x v Q I rx h
 obtain ⟨i,rfl,q⟩:=h
 obtain ⟨t,rfl⟩:=rx
 exact rule i t s _ _ ⟨.int (g i),H,I.tok _,⟨_,rfl⟩,q⟩
theorem zn3:UnR X (unaryOp .USub) (rU fun i=> .int (-i)):=unI fun _ _ _ _ _ q=>neg_int q
end
section
variable {X:Cx} {a b c:Expr} {ta tb tc:TE} {pos:Pos}
theorem ztX:OpR X (compareOp .Lt) (rI0 fun i j=> .bl (decide (i<j))):=zs5 fun _ _ _ _ _ _ _ q=>lt_int q
theorem zug:OpR X (compareOp .LtE) (rI0 fun i j=> .bl (decide (i<=j))):=zs5 fun _ _ _ _ _ _ _ q=>le_int q
theorem ztV:OpR X (compareOp .Gt) (rI0 fun i j=> .bl (decide (j<i))):=zs5 fun _ _ _ _ _ _ _ q=>gt_int q
theorem ztR:OpR X (compareOp .GtE) (rI0 fun i j=> .bl (decide (j<=i))):=zs5 fun _ _ _ _ _ _ _ q=>ge_int q
theorem OpR.or {f:Value->Value->Sem Value} {r r':R2} (h:OpR X f r) (h':OpR X f r'):OpR X f (fun x y H Q=>r x y H Q\/r' x y H Q):=by
 intro pins s σ H x y v u Q I rx ry q
 rcases q with q | q
 ·exact h pins s σ H x y v u Q I rx ry q
 ·exact h' pins s σ H x y v u Q I rx ry q
theorem zo5 {op:CmpOp} {r:R2} (ho:OpR X (compareOp op) r) (ha:PE X a ta) (hb:PE X b tb) (hm:behindInMarks op b=false):PE X (.Compare a [op] [b] pos) (tOp r ta tb):=by
 intro pins s σ H Q I h
 exact wpAny_Compare1 (zum ha hb I h fun v u s2 x y H2 I2 rx ry q=>ho pins s2 σ H2 x y v u Q I2 rx ry q) hm
noncomputable def zul (t:TE):TT:=fun σ H Q=>t σ H fun x H'=> ∃ k,x= .bl k/\Q k H'
theorem zpK {op:CmpOp} {r:R2} (ho:OpR X (compareOp op) r) (ha:PE X a ta) (hb:PE X b tb) (hm:behindInMarks op b=false):PT X (.Compare a [op] [b] pos) (zul (tOp r ta tb)):=by
 intro pins s σ H Q I h
 refine wpAny_isTrue_Compare1 (thn (ha pins s σ H _ I h) fun v s1 ⟨x,H1,I1,r1,q1⟩=>thn (hb pins s1 σ H1 _ I1 q1) fun u s2 ⟨y,H2,I2,r2,q2⟩=>
   thn (ho pins s2 σ H2 x y v u _ I2 r1 r2 q2) fun c s3 ⟨z,H3,I3,r3,k,e,q3⟩=> ?_) hm
 subst e
 cases r3
 exact wpAny_truthy_bool ⟨H3,I3,q3⟩
noncomputable def zon (r r':R2) (ta tb tc:TE):TE:=fun σ H Q=>ta σ H fun x H1=>tb σ H1 fun y H2=>r x y H2 fun z H3=> ∃ k,z= .bl k/\
 (if k=true then tc σ H3 fun w' H4=>r' y w' H4 Q else Q (.bl false) H3)
theorem zmZ {op op':CmpOp} {r r':R2} (ho:OpR X (compareOp op) r) (ho':OpR X (compareOp op') r') (ha:PE X a ta) (hb:PE X b tb) (hc:PE X c tc)
  (hm:lastMarks [op,op'] [b,c]=false:=by with_unfolding_all rfl):PE X (.Compare a [op,op'] [b,c] pos) (zon r r' ta tb tc):=by
 intro pins s σ H Q I h
 refine Compare_chain (thn (ha pins s σ H _ I h) fun v s1 ⟨x,H1,I1,r1,q1⟩=>chain_link (thn (hb pins s1 σ H1 _ I1 q1) fun u s2 ⟨y,H2,I2,r2,q2⟩=>
   thn (ho pins s2 σ H2 x y v u _ I2 r1 r2 q2) fun d s3 ⟨z,H3,I3,r3,k,e,q3⟩=> ?_)) hm
 subst e
 cases r3
 refine wpAny_truthy_bool ?_
 cases k with
 | false=>exact ite_ff ⟨.bl false,H3,I3,rfl,q3⟩
 | true=>exact ite_tt (chain_last (thn (hc pins s3 σ H3 _ I3 q3) fun w' s4 ⟨z',H4,I4,r4,q4⟩=>ho' pins s4 σ H4 y z' u w' Q I4 r2 r4 q4))
def zuy (K:W.Frag) (x:V) (H:Hp) (k:Bool):Prop:=
 match x with
 | .non=>k=false
 | .bl b=>k=b
 | .int i=>k=(i != 0)
 | .str y=>y.length<=sizeLine/\k=((y.length:Int) != 0)
 | .byt y=>y.size<=sizeLine/\k=((y.size:Int) != 0)
 | .ref p=>(∃ xs,SqL K H p xs/\k= !xs.isEmpty)\/(∃ xs,SqT K H p xs/\k= !xs.isEmpty)\/ ∃ kvs,H p=some (.dK kvs)/\k= !kvs.isEmpty
 | _=>False
theorem zj5 {κ:Type} {kvs:List (κ×V)} {vs:List (κ×Value)} (r:KV kvs vs):(!vs.isEmpty)= !kvs.isEmpty:=by
 cases r<;>rfl
theorem zgr {xs:List V} {its:List Value} (r:za7 xs its):(!its.toArray.isEmpty)= !xs.isEmpty:=by
 cases r<;>simp
theorem zhk:(sizeLine:Nat)<2^63:=by rw [sizeLine_eq];decide
theorem zrB:zuL X (fun x H Q=> ∃ k,zuy X.K x H k/\Q k H):=by
 intro pins s σ H x v Q I rx h
 obtain ⟨k,e,q⟩:=h
 have hl:=zhk
 have hs:sizeLine=16777216:=sizeLine_eq
 cases x with
 | non=>
  cases rx
  have e':k=false:=e
  subst e'
  exact truthy_none ⟨H,I,q⟩
 | bl b=>
  cases rx
  have e':k=b:=e
  subst e'
  exact wpAny_truthy_bool ⟨H,I,q⟩
 | int i=>
  obtain ⟨t,rfl⟩:=rx
  have e':k=(i != 0):=e
  subst e'
  exact PySem.P.truthy_int ⟨H,I,q⟩
 | str y=>
  obtain ⟨t,rfl⟩:=rx
  obtain ⟨hy,e'⟩:y.length<=sizeLine/\k=((y.length:Int) != 0):=e
  subst e'
  exact PySem.P.truthy_str (by omega) ⟨H,I.tok _,q⟩
 | byt y=>
  obtain ⟨t,rfl⟩:=rx
  obtain ⟨hy,e'⟩:y.size<=sizeLine/\k=((y.size:Int) != 0):=e
  subst e'
  exact W.truthy_bytes (by omega) ⟨H,I.tok _,q⟩
 | ref p=>
  cases rx
  have e':(∃ xs,SqL X.K H p xs/\k= !xs.isEmpty)\/(∃ xs,SqT X.K H p xs/\k= !xs.isEmpty)\/ ∃ kvs,H p=some (.dK kvs)/\k= !kvs.isEmpty:=e
  rcases e' with ⟨xs,hx,e'⟩ | ⟨xs,hx,e'⟩ | ⟨kvs,hx,e'⟩
  ·subst e'
   obtain ⟨its,r,pl,hz⟩:=I.list hx
   have hlen:=r.length
   exact wpAny_truthy_list pl.isList (by simp only [qaA];omega) ⟨H,I.tok _,by rw [zgr r];exact q⟩
  ·subst e'
   obtain ⟨its,r,pl,hz⟩:=I.tuple hx
   have hlen:=r.length
   exact truthy_tuple pl (by simp only [qaA];omega) ⟨H,I.tok _,by rw [zgr r];exact q⟩
  ·subst e'
   obtain ⟨hz,hS,vs,r,m⟩:kvs.length<=sizeLine/\(p==sysModules)=false/\ ∃ vs,KV kvs vs/\s.heap.DictOf (ziz X.prog X.w) p vs:=I.hok p _ hx
   have hlen:kvs.length=vs.length:=Paired.length r
   exact wpAny_truthy_dict hS m (by omega) ⟨H,I.tok _,by rw [zj5 r];exact q⟩
 | _=>exact (show False from e).elim
theorem znG (ha:PE X a ta) (he: ∀ whole,isTrue a X.env whole=(do let v<-whole;standAt a.pos;holding [v] (truthy v))):
  PT X a (fun σ H Q=>ta σ H fun x H'=> ∃ k,zuy X.K x H' k/\Q k H'):=by
 intro pins s σ H Q I h
 exact isTrue_plain (thn (ha pins s σ H _ I h) fun v s1 ⟨x,H1,I1,r1,q1⟩=>zrB pins s1 σ H1 x v Q I1 r1 q1) (he _)
theorem zj1:OpR X (binaryOp .Add) (fun x y H Q=> ∃ i j,x= .str i/\y= .str j/\i.length+j.length<=sizeLine/\Q (.str (i++j)) H):=by
 intro pins s σ H x y v u Q I rx ry h
 obtain ⟨i,j,rfl,rfl,hz,q⟩:=h
 obtain ⟨t,rfl⟩:=rx
 obtain ⟨t',rfl⟩:=ry
 exact add_str (fun t' tk=>⟨.str (i++j),H,I.tok _,⟨_,rfl⟩,q⟩) hz
theorem zeO {x:V} {us:List Value} (r:za7 [x] us): ∃ u,us=[u]/\zb5 x u:=by
 cases r with
 | cons r1 r2=>cases r2;exact ⟨_,rfl,r1⟩
theorem zsQ {x y:V} {us:List Value} (r:za7 [x,y] us): ∃ u w',us=[u,w']/\zb5 x u/\zb5 y w':=by
 cases r with
 | cons r1 r2=>
  cases r2 with
  | cons r3 r4=>cases r4;exact ⟨_,_,rfl,r1,r3⟩
theorem zkm (hc:X.calm=true):za0 X (.builtin "max") (fun xs H Q=> ∃ i j,xs=[.int i,.int j]/\Q (.int (if j>i then j else i)) H):=by
 intro pins s σ H xs us Q I r h
 obtain ⟨i,j,rfl,q⟩:=h
 obtain ⟨u,w',rfl,⟨t,rfl⟩,⟨t',rfl⟩⟩:=zsQ r
 refine max_two_ints (I.ok.hd hc) fun h' tk k=>⟨_,H,I.kept k,?_,q⟩
 by_cases hj:j>i
 ·rw [qa4 hj,qa4 hj];exact ⟨_,rfl⟩
 ·rw [qa5 hj,qa5 hj];exact ⟨_,rfl⟩
theorem zk3 (hc:X.calm=true):za0 X (.builtin "min") (fun xs H Q=> ∃ i j,xs=[.int i,.int j]/\Q (.int (if j<i then j else i)) H):=by
 intro pins s σ H xs us Q I r h
 obtain ⟨i,j,rfl,q⟩:=h
 obtain ⟨u,w',rfl,⟨t,rfl⟩,⟨t',rfl⟩⟩:=zsQ r
 refine min_two_ints (I.ok.hd hc) fun h' tk k=>⟨_,H,I.kept k,?_,q⟩
 by_cases hj:j<i
 ·rw [qa4 hj,qa4 hj];exact ⟨_,rfl⟩
 ·rw [qa5 hj,qa5 hj];exact ⟨_,rfl⟩
theorem zmd:za0 X (.type "int") (fun xs H Q=>(∃ i,xs=[.int i]/\Q (.int i) H)\/ ∃ k,xs=[.bl k]/\Q (.int (if k then 1 else 0)) H):=by
 intro pins s σ H xs us Q I r h
 rcases h with ⟨i,rfl,q⟩ | ⟨k,rfl,q⟩
 ·obtain ⟨u,rfl,t,rfl⟩:=zeO r
  exact call_int_int ⟨.int i,H,I,⟨_,rfl⟩,q⟩
 ·obtain ⟨u,rfl,r1⟩:=zeO r
  cases r1
  exact call_int_bool ⟨.int (if k then 1 else 0),H,I.tok _,⟨_,rfl⟩,q⟩
end
structure zua (h:Heap) (x dx C:Addr) (mA:Str->Option Value):Prop where
 obj:h.get? x=some (W.instObj C dx)
 ns:h.Ns1 dx mA
 ne:dx≠x
theorem zkl {h:Heap} {dx:Addr} {mA:Str->Option Value} (n:h.Ns1 dx mA): ∃ od,h.get? dx=some od/\ ∀ name,W.lookIn name od=some (mA name):=by
 obtain ⟨o,es,ep,ho,hd,hk,_,hm⟩:=n
 refine ⟨o,ho,fun name=> ?_⟩
 have e:=hm name
 unfold nsFind findBy at e
 rw [<- Array.find?_toList] at e
 unfold W.lookIn
 rw [hd]
 dsimp only
 split
 ·rename_i y q
  rw [q] at e
  exact congrArg some e
 ·rename_i q
  rw [q] at e
  have a:es.toList.any (·.refKey)=false:=by
   rw [List.any_eq_false]
   intro y hy
   obtain ⟨z,t,hkey⟩:=hk y (Array.mem_toList_iff.mp hy)
   simp [DictEntry.refKey,hkey]
  have a': ¬es.toList.any (·.refKey)=true:=by rw [a];exact Bool.false_ne_true
  rw [qa5 a']
  exact congrArg some e
theorem zua.look {h:Heap} {x dx C:Addr} {mA:Str->Option Value} (I:zua h x dx C mA): ∃ od,W.InstAt h x (W.instObj C dx) C (some od)/\ ∀ name,W.lookIn name od=some (mA name):=
 let ⟨od,ho,hl⟩:=zkl I.ns
 ⟨od,⟨I.obj,rfl,rfl,ho⟩,hl⟩
section
variable {prog:Program} {w:World} {A:Around} {E:Value->Shared->Prop} {s:Shared} {K:W.Frag} {x dx C f:Addr} {mA:Str->Option Value} {name:Str} {v:Value}
end
section
variable {P:Program} {w:World} {H H':Hp} {h h':Heap} {a C dx:Addr} {fs fs':List (Str×V)}
theorem zqf (hok:HOk P w H h) (e:H a=some (.ins C dx fs)): ∃ mA,zua h a dx C mA/\(∀ f,zta (fs.lookup f) (mA f))/\PySem.Within mA (fs.map (·.1))/\fs.length<=1000/\H dx=some (.own a):=by
 obtain ⟨d,z,ne,ob,mA,n,r,q⟩:=(show zbU P w H h a (.ins C dx fs) from hok a _ e)
 exact ⟨mA,⟨ob,n,ne⟩,r,q,z,d⟩
end
structure Cls (K:W.Frag) (C:Addr):Prop where
 pg:W.plainGet K C Str.empty=true
 hd:W.hasDictIn K C=true
 po:W.plainOver K C=true
 sa:W.findIn K (.ref C) "__setattr__"=some (some (.builtin "object.__setattr__"))
theorem Cls.get {K:W.Frag} {C:Addr} (c:Cls K C) (f:Str):W.plainGet K C f=true:=c.pg
structure Con (K:W.Frag) (C:Addr) (f:Str) (v:V) (u:Value):Prop where
 at_:W.findIn K (.ref C) f=some (some u)
 rel:zb5 v u
 get:W.specialIn K u "__get__"=some none
 cp:W.copiedNames.contains f=false
structure zu9 (K:W.Frag) (C:Addr) (m:Str) (f:Addr):Prop where
 at_:W.findIn K (.ref C) m=some (some (.ref f))
 fn:W.isFn K (.ref f)=true
 kp:W.keepIn K (.ref f)=true
section
variable {X:Cx} {pins:List (Addr×Obj)} {σ:St} {H:Hp} {s:Shared} {a C dx:Addr} {fs:List (Str×V)} {f:Str} {v:V} {A:Around} {E:Value->Shared->Prop}
theorem Inv.made (I:Inv X pins σ H s):Inv X pins σ (upd (upd H s.heap.objs.size (.own (s.heap.objs.size+1))) (s.heap.objs.size+1) (.ins C s.heap.objs.size []))
  {s with heap:=(s.heap.push W.emptyDict).push (W.instObj C s.heap.objs.size)}:=by
 have e1:(s.heap.push W.emptyDict).get? s.heap.objs.size=some W.emptyDict:=qar s.heap rfl
 have e2:((s.heap.push W.emptyDict).push (W.instObj C s.heap.objs.size)).get? (s.heap.objs.size+1)=some (W.instObj C s.heap.objs.size):=by
  have:=qar (s.heap.push W.emptyDict) (o:=W.instObj C s.heap.objs.size) rfl
  rwa [qaL] at this
 have e3:(s.heap.push W.emptyDict).Ns s.heap.objs.size (fun _=>none):=⟨W.emptyDict, #[],_,e1,rfl,(fun e he=>absurd he (by simp)),fun _=>rfl⟩
 have I1:=I.laid (a:=s.heap.objs.size) (o:= .own (s.heap.objs.size+1)) (h':=s.heap.push W.emptyDict) (t':=s.toks) (fun b u q=>qag _ q) (qaV _) ⟨_,e1⟩
 refine I1.laid (a:=s.heap.objs.size+1) (o:= .ins C s.heap.objs.size []) (t':=s.toks) (fun b u q=>qag _ q) (Nat.le_of_eq (qaL _ _)) ?_
 have ne:s.heap.objs.size≠s.heap.objs.size+1:=qaR (Nat.lt_succ_self _)
 refine ⟨by rw [zaF ne,zaS],Nat.zero_le _,ne,e2,fun _=>none,(Heap.Ns1.of_empty e3).at fun o q=>qag _ q,fun _=>True.intro,fun y hy=>absurd rfl hy⟩
end
section
variable {X:Cx} {o e value:Expr} {f:Str} {pos pos' tpos:Pos} {ta tv:TE}
end
section
variable {X:Cx} {pins:List (Addr×Obj)} {σ:St} {H:Hp} {s:Shared} {A:Around} {E:Value->Shared->Prop} {Q:Value->Shared->Prop} {c:Value} {b:Bool}
inductive zi7 (K:W.Frag) (H:Hp):V->Value->Prop where
 | non:zi7 K H .non (.type "NoneType")
 | bl (x:Bool):zi7 K H (.bl x) (.type "bool")
 | int (i:Int):zi7 K H (.int i) (.type "int")
 | str (x:Str):zi7 K H (.str x) (.type "str")
 | flt (x:UInt64):zi7 K H (.flt x) (.type "float")
 | lst {a:Addr} {xs:List V} (e:H a=some (.lst xs)):zi7 K H (.ref a) (.type "list")
 | frz {a:Addr} {o:Obj} {xs:List V} (e:H a=some (.frz o (.lst xs))):zi7 K H (.ref a) (.type "list")
 | tup {a:Addr} {xs:List V} (e:H a=some (.tup xs)):zi7 K H (.ref a) (.type "tuple")
 | dK {a:Addr} {kvs:List (Key×V)} (e:H a=some (.dK kvs)):zi7 K H (.ref a) (.type "dict")
 | dT {a:Addr} {kvs:List (List Key×V)} (e:H a=some (.dT kvs)):zi7 K H (.ref a) (.type "dict")
 | ins {a C dx:Addr} {fs:List (Str×V)} (e:H a=some (.ins C dx fs)) (cl:Cls K C) (ha:W.findIn K (.ref C) "__class__"=some (some (.builtin "object.__class__")))
   (hn:W.specialIn K (.builtin "object.__class__") "__get__"=some (some (.builtin "getset_descriptor.__get__"))) (htk:W.takesIn K (.builtin "object.__class__")=some true)
   (hm:W.mroIn K C (.type "object")=some true):zi7 K H (.ref a) (.ref C)
theorem zk0 {x:V} {u t:Value} (I:Inv X pins σ H s) (rx:zb5 x u) (ty:zi7 X.K H x t) (e:W.kitOne X.K t c=some b) (h: ∀ tk,Q (.bool b) {s with toks:=tk}):
  wpAny (model X.prog X.w) A (call (.builtin "isinstance") [u,c]) Q E s:=by
 cases ty with
 | non=>cases (show u=Value.none from rx);exact W.kia_one W.kitx_none I.kIn True.intro e (fun z=>nomatch z) h
 | bl y=>cases (show u=Value.bool y from rx);exact W.kia_one W.kitx_bool I.kIn True.intro e (fun z=>nomatch z) h
 | int i=>obtain ⟨t,q⟩:=(show ∃ t,u=Value.int i t from rx);cases q;exact W.kia_one W.kitx_int I.kIn True.intro e (fun z=>nomatch z) h
 | str y=>obtain ⟨t,q⟩:=(show ∃ t,u=Value.str y t from rx);cases q;exact W.kia_one W.kitx_str I.kIn True.intro e (fun z=>nomatch z) h
 | flt y=>obtain ⟨t,q⟩:=(show ∃ t,u=Value.float y t from rx);cases q;exact W.kia_one W.kitx_float I.kIn True.intro e (fun z=>nomatch z) h
 | @lst a xs ea=>
  cases (show u=Value.ref a from rx)
  obtain ⟨_,_,n,_,h1⟩:=(show zbU X.prog X.w H s.heap a (.lst xs) from I.hok a _ ea)
  exact W.kia_one W.kitx_list I.kIn ⟨_,h1,rfl⟩ e (fun z=>nomatch z) h
 | @frz a ob xs ea=>
  cases (show u=Value.ref a from rx)
  obtain ⟨_,_,_,n,_,h1⟩:=(show zbU X.prog X.w H s.heap a (.frz ob (.lst xs)) from I.hok a _ ea)
  exact W.kia_one W.kitx_list I.kIn ⟨_,h1,rfl⟩ e (fun z=>nomatch z) h
 | @tup a xs ea=>
  cases (show u=Value.ref a from rx)
  obtain ⟨_,_,_,p⟩:=(show zbU X.prog X.w H s.heap a (.tup xs) from I.hok a _ ea)
  obtain ⟨o,h1,h2,_⟩:=p
  exact W.kia_one W.kitx_tuple I.kIn ⟨o,h1,h2⟩ e (fun z=>nomatch z) h
 | @dK a kvs ea=>
  cases (show u=Value.ref a from rx)
  obtain ⟨_,_,vs,_,p⟩:=(show zbU X.prog X.w H s.heap a (.dK kvs) from I.hok a _ ea)
  obtain ⟨o,es,ep,h1,h2,_⟩:=p
  exact W.kia_one W.kitx_dict I.kIn ⟨o,h1,h2.1⟩ e (fun z=>nomatch z) h
 | @dT a kvs ea=>
  cases (show u=Value.ref a from rx)
  obtain ⟨_,_,xs,_,o,es,ep,h1,h2,_⟩:=(show zbU X.prog X.w H s.heap a (.dT kvs) from I.hok a _ ea)
  exact W.kia_one W.kitx_dict I.kIn ⟨o,h1,h2.1⟩ e (fun z=>nomatch z) h
 | @ins a C dx fs ea cl ha hn htk hm=>
  cases (show u=Value.ref a from rx)
  obtain ⟨mA,O,_⟩:=zqf I.hok ea
  obtain ⟨od,J,_⟩:=O.look
  exact W.kia_one (W.kitx_own (cl.get _) cl.hd ha hn htk hm) I.kIn J e (fun z=>nomatch z) h
end
structure zdV (k:Nat) (A:Around):Prop where
 hd:A.handled=none
 dp:A.depth+3*k+5<recursionLimit
 un:A.units+16*k+200<cLine
theorem zdV.mono {j k:Nat} {A:Around} (r:zdV k A) (h:j<=k):zdV j A:=⟨r.hd,by have:=r.dp;omega,by have:=r.un;omega⟩
theorem zdV.deeper {k:Nat} {A:Around} (r:zdV (k+1) A) (env:Env):zdV k (A.deeper env):=
 ⟨r.hd,by have:=r.dp;show A.depth+1+3*k+5<_;omega,by have:=r.un;show A.units+3+16*k+200<_;omega⟩
theorem zdV.in1 {k:Nat} {A:Around} (r:zdV (k+1) A):zdV k A.in1:=
 ⟨r.hd,by have:=r.dp;show A.depth+3*k+5<_;omega,by have:=r.un;show A.units+1+16*k+200<_;omega⟩
theorem zdV.depth {k:Nat} {A:Around} (r:zdV k A):A.depth<recursionLimit:=by have:=r.dp;omega
theorem zdV.units {k:Nat} {A:Around} (r:zdV k A):A.units+64<cLine:=by have:=r.un;omega
noncomputable def zuU:TA:=fun _ H Q=>Q [] H
noncomputable def zts (ta:TE) (tr:TA):TA:=fun σ H Q=>ta σ H fun x H1=>tr σ H1 fun xs H2=>Q (x::xs) H2
section
variable {X:Cx} {e:Expr} {es:List Expr} {te:TE} {t:TA} {pos:Pos}
theorem zcs:PA X [] zuU:=fun _ _ _ _ H Q I h=>Calls.spliced_nil ⟨[],H,I,.nil,h⟩
theorem zbs (ha:PE X e te) (hr:PA X es t) (hs:starEach (e::es) X.env=(false,eval e X.env)::starEach es X.env:=by rfl):PA X (e::es) (zts te t):=by
 intro pos pins s σ H Q I h
 rw [hs]
 show wpAny _ _ (spliced ((false,eval e X.env)::backTo pos (starEach es X.env))) _ _ s
 refine Calls.spliced_cons (thn (ha pins s σ H _ I h) fun u s1 ⟨x,H1,I1,r1,q1⟩=> ?_)
 exact thn (hr pos pins s1 σ H1 _ I1 q1) fun us s2 ⟨xs,H2,I2,r2,q2⟩=>⟨x::xs,H2,I2,.cons r1 r2,q2⟩
noncomputable def zu2 (t:TA):TE:=fun σ H Q=>t σ H fun xs H1=>xs.length<=sizeLine/\ ∀ p,H1 p=none->Q (.ref p) (upd H1 p (.tup xs))
noncomputable def znU (t:TA):TE:=fun σ H Q=>t σ H fun xs H1=>xs.length<=sizeLine/\ ∀ p,H1 p=none->Q (.ref p) (upd H1 p (.lst xs))
theorem zsE {x1} (h:PA X es t):PE X (.Tuple es x1 pos) (zu2 t):=by
 intro pins s σ H Q I hq
 refine wpAny_Tuple_spliced (thn (h pos pins s σ H _ I hq) fun us s1 ⟨xs,H1,I1,r,z,q⟩=>⟨by rw [<- r.length];exact z,?_⟩)
 have hf:H1 s1.heap.objs.size=none:=I1.hok.fresh (qaV _)
 refine ⟨.ref s1.heap.objs.size,upd H1 s1.heap.objs.size (.tup xs),I1.laid (t':=s1.toks) (fun b u e=>qag _ e) (qaV _) ?_,rfl,q _ hf⟩
 exact ⟨z,us,r,⟨_,qar _ rfl,rfl,_,rfl⟩⟩
theorem zlr (h:PA X es t):PE X (.List es pos) (znU t):=by
 intro pins s σ H Q I hq
 refine wpAny_List_spliced (thn (h pos pins s σ H _ I hq) fun us s1 ⟨xs,H1,I1,r,z,q⟩=>⟨by rw [<- r.length];exact z,?_⟩)
 have hf:H1 s1.heap.objs.size=none:=I1.hok.fresh (qaV _)
 refine ⟨.ref s1.heap.objs.size,upd H1 s1.heap.objs.size (.lst xs),I1.laid (t':=s1.toks) (fun b u e=>qag _ e) (qaV _) ?_,rfl,q _ hf⟩
 exact ⟨z,us,0,r,qar _ rfl⟩
end
noncomputable abbrev Sp:=List V->Hp->VK->XK->Prop
noncomputable abbrev CXT:=List Env->Hp->Shared->XK->Value->Shared->Prop
structure znA (P:Program) (w:World) (K:W.Frag) (mg:Str->Option Value) (base:Heap) (A:Around) (outer:List Env) (s:Shared) (H:Hp):Prop where
 frames:A.frames=some outer
 mod:Mod K mg base
 bs: ∀ b o,base.get? b=some o->s.heap.get? b=some o/\H b=none
 bsz:base.objs.size<=s.heap.objs.size
 funs:s.heap.FunFrames base outer
 frf: ∀ b∈frs outer,H b=none
 hok:HOk P w H s.heap
 bare:AllBare s.gens
 hand:zhm A H
def CE (outer:List Env) (P:Program) (w:World) (H:Hp) (s:Shared) (Q:VK) (u:Value) (s':Shared):Prop:=
 ∃ v H',s'.os=s.os/\AllBare s'.gens/\Un (frs outer) [] H H' s.heap s'.heap/\HOk P w H' s'.heap/\zb5 v u/\Q v H'
def CR (CX:CXT) (outer:List Env) (P:Program) (w:World) (H:Hp) (s:Shared) (Q:VK) (E:XK) (r:Result) (s':Shared):Prop:=
 match r with
 | .ok (.ret u)=>CE outer P w H s Q u s'
 | .ok _=>False
 | .error e=>CX outer H s E e s'
structure zbq (P:Program) (w:World) (K:W.Frag) (mg:Str->Option Value) (base:Heap) (CX:CXT) (k:Nat) (f:Addr) (fd:FuncData) (ps:List Str) (sp:Sp):Prop where
 len: ∀ vs H Q E,sp vs H Q E->vs.length=ps.length
 run: ∀ (A:Around) (outer:List Env) (s:Shared) (H:Hp) (args:Args) (us:List Value) (vs:List V) (Q:VK) (E:XK),zdV k A->znA P w K mg base A outer s H->BindsTo s fd args (ps.zip us)->za7 vs us->sp vs H Q E->
  codeAny (model P w) A (.call (.ref f) args) (CR CX outer P w H s Q E) s
theorem zbq.mono {P:Program} {w:World} {K:W.Frag} {mg:Str->Option Value} {base:Heap} {CX:CXT} {j k:Nat} {f:Addr} {fd:FuncData} {ps:List Str} {sp:Sp} (F:zbq P w K mg base CX j f fd ps sp) (h:j<=k):
  zbq P w K mg base CX k f fd ps sp:=⟨F.len,fun A outer s H args us vs Q E hr=>F.run A outer s H args us vs Q E (hr.mono h)⟩
theorem zbq.imp {P:Program} {w:World} {K:W.Frag} {mg:Str->Option Value} {base:Heap} {CX:CXT} {k:Nat} {f:Addr} {fd:FuncData} {ps:List Str} {sp sp':Sp} (F:zbq P w K mg base CX k f fd ps sp)
  (h: ∀ vs H Q E,sp' vs H Q E->sp vs H Q E):zbq P w K mg base CX k f fd ps sp':=
 ⟨fun vs H Q E q=>F.len vs H Q E (h _ _ _ _ q),fun A outer s H args us vs Q E hr he hb hv hs=>F.run A outer s H args us vs Q E hr he hb hv (h _ _ _ _ hs)⟩
theorem znA.in1 {P:Program} {w:World} {K:W.Frag} {mg:Str->Option Value} {base:Heap} {A:Around} {outer:List Env} {s:Shared} {H:Hp} (e:znA P w K mg base A outer s H):
  znA P w K mg base A.in1 outer s H:=⟨e.frames,e.mod,e.bs,e.bsz,e.funs,e.frf,e.hok,e.bare,e.hand⟩
section
variable {X:Cx} {pins:List (Addr×Obj)} {σ:St} {H:Hp} {s s':Shared}
theorem Inv.env0 (I:Inv X pins σ H s):znA X.prog X.w X.K X.mg X.base X.A X.stack s H:=
 ⟨I.ok.frames,I.ok.mod,I.bs,qaS I.ok.bsz I.sz,I.stack,I.stkFree,I.hok,I.bare,I.handA⟩
theorem Inv.after {Q:VK} {u:Value} (I:Inv X pins σ H s) (h:CE X.stack X.prog X.w H s Q u s'):EP X pins σ Q u s':=by
 obtain ⟨v,H',os,bare,un,hok,r,q⟩:=h
 obtain ⟨hh,g,d,t,os'⟩:=s'
 obtain rfl:os'=s.os:=os
 exact ⟨v,H',I.call (h':=hh) (g':=g) (d':=d) (t':=t) (ch:=[]) un hok bare (fun b z=>absurd z (by simp)),r,q⟩
end
noncomputable def ztg (sp:Sp) (dvs:List V) (E:XK) (t:TA):TE:=fun σ H Q=>t σ H fun vs H1=>sp (vs++dvs) H1 Q E
def zaJ (K:W.Frag) (fd:FuncData) (ps:List Str) (ds:List Value):Prop:=
 ∀ (s:Shared) (us:List Value),K.In s.heap->(us++ds).length=ps.length->BindsTo s fd ⟨us,[]⟩ (ps.zip (us++ds))
theorem zaJ.all {K:W.Frag} {fd:FuncData} {ps:List Str} (h: ∀ us:List Value,us.length=ps.length->bindArgs fd ⟨us,[]⟩=pure (ps.zip us)):zaJ K fd ps []:=fun s us _ hl=>by
 rw [List.append_nil] at hl ⊢
 exact .of_eq (h us hl)
def zdx (CX:CXT) (X:Cx) (E:XK):Prop:= ∀ (pins:List (Addr×Obj)) (σ:St) (H:Hp) (s:Shared) (e:Value) (s':Shared),Inv X pins σ H s->CX X.stack H s E e s'->X.xe e s'
section
variable {X:Cx} {CX:CXT} {k:Nat} {f C:Addr} {fd:FuncData} {ps:List Str} {sp:Sp} {dvs:List V} {ds:List Value} {E:XK} {x m:Str} {p pos apos:Pos} {e o:Expr} {es:List Expr} {ta:TE} {t:TA}
theorem zog {pins:List (Addr×Obj)} {σ:St} {H:Hp} {s:Shared} {Q:VK} {us:List Value} {vs:List V} (F:zbq X.prog X.w X.K X.mg X.base CX k f fd ps sp) (hr:zdV k X.A) (hb:zaJ X.K fd ps ds) (hd:za7 dvs ds) (hx:zdx CX X E)
  (I:Inv X pins σ H s) (r:za7 vs us) (h:sp (vs++dvs) H Q E):wpAny (model X.prog X.w) X.A (call (.ref f) us) (EP X pins σ Q) X.xe s:=by
 have r2:za7 (vs++dvs) (us++ds):=r.append hd
 have hl:(us++ds).length=ps.length:=by rw [<- r2.length];exact F.len _ _ _ _ h
 refine wpAny_call (codeAny_mono (F.run X.A X.stack s H ⟨us,[]⟩ (us++ds) (vs++dvs) Q E hr I.env0 (hb s us I.kIn hl) r2 h) fun r s' hq=> ?_)
 cases r with
 | error e=>exact hx pins σ H s e s' I hq
 | ok fl=>
  cases fl with
  | ret u=>exact I.after hq
  | next=>exact qa0 hq
  | brk=>exact qa0 hq
  | cont=>exact qa0 hq
theorem ziP (F:zbq X.prog X.w X.K X.mg X.base CX k f fd ps sp) (hr:zdV k X.A) (hg:Gl X x) (hm:X.mg x=some (.ref f)) (hk:W.keepIn X.K (.ref f)=true) (hb:zaJ X.K fd ps ds) (hd:za7 dvs ds) (hx:zdx CX X E)
  (ha:PA X (e::es) t) (hdb:(x==("__debug__":Str))=false:=by decide) (he:starEach (e::es) X.env=(false,eval e X.env)::starEach es X.env:=by rfl) (hpl:(backTo pos (starEach es X.env)).any (·.1)=false:=by rfl):
  PE X (.Call (.Name x p) (e::es) [] pos) (ztg sp dvs E t):=by
 intro pins s σ H Q I h
 refine wpAny_Call_Name_kw (ziS I hg hm ?_ hdb)
 refine W.callWith_K (h₀:=X.base) I.ok.mod.kin hk (thn (ha pos pins s σ H _ I h) fun us s1 ⟨vs,H1,I1,r,q⟩=>⟨I1.kIn,?_⟩) he hpl
 exact zog F hr hb hd hx I1 r q
structure Mk (K:W.Frag) (C f:Addr):Prop where
 makes:W.makesIn K C=true
 init:W.findIn K (.ref C) "__init__"=some (some (.ref f))
 fn:W.isFn K (.ref f)=true
 kp:W.keepIn K (.ref C)=true
end
section
variable {X:Cx} {CX:CXT} {k:Nat} {f C:Addr} {fd:FuncData} {ps ks:List Str} {sp:Sp} {E:XK} {x m:Str} {p pos apos kpos:Pos} {e o:Expr} {es:List Expr} {kws:List Keyword} {te ta:TE} {t tk:TA} {nm:Option Str}
structure zut (K:W.Frag) (fd:FuncData) (ps ks:List Str) (g:List Value->List Value->List Value) (gV:List V->List V->List V):Prop where
 to: ∀ (s:Shared) (us ws:List Value),K.In s.heap->(g us ws).length=ps.length->BindsTo s fd ⟨us,ks.zip ws⟩ (ps.zip (g us ws))
 rel: ∀ {vs:List V} {us:List Value} {zs:List V} {ws:List Value},za7 vs us->za7 zs ws->za7 (gV vs zs) (g us ws)
variable {g:List Value->List Value->List Value} {gV:List V->List V->List V}
end
structure zal (N P:List Str) (sc:Scope):Prop where
 kind:sc.kind= .function
 co:sc.isCoroutine=false
 gen:sc.isGenerator=false
 nd:N.Nodup
 pre:N.take P.length=P
 par: ∀ x∈P,sc.names.lookup x=some .local\/sc.names.lookup x=some .cell
 nofree: ∀ y∈sc.names,y.2≠ .free
theorem zh0 {kindOf:Str->Option NameKind} {x:Str}: ∀ {binds:List (Str×Value)} {m:Str->Option Value},(∀ v,(x,v)∉binds)->bindL kindOf binds m x=m x
 | [],_,_=>rfl
 | (n,v)::r,m,h=>by
  unfold bindL
  rw [zh0 fun w hw=>h w (qan _ hw)]
  split
  ·have:x≠n:=by rintro rfl;exact h v qau
   simp [this]
  ·rfl
theorem zhg {kindOf:Str->Option NameKind} {x:Str}: ∀ {binds:List (Str×Value)} {m:Str->Option Value},(∀ v,(x,v)∉binds)->bindC kindOf binds m x=m x
 | [],_,_=>rfl
 | (n,v)::r,m,h=>by
  unfold bindC
  rw [zhg fun w hw=>h w (qan _ hw)]
  split
  ·rfl
  ·have:x≠n:=by rintro rfl;exact h v qau
   simp [this]
theorem zhW {kindOf:Str->Option NameKind} {x:Str} {v:Value}: ∀ {P:List Str} {vs:List Value} {i:Nat} {m:Str->Option Value},P.Nodup->P[i]? = some x->vs[i]? = some v->kindOf x=some .local->
  bindL kindOf (P.zip vs) m x=some v
 | [],_,_,_,_,h,_,_=>by simp at h
 | _::_,[],_,_,_,_,h,_=>by simp at h
 | p::P,w::vs,0,m,nd,h1,h2,hk=>by
  simp at h1 h2;subst h1;subst h2
  show bindL kindOf ((p,w)::P.zip vs) m p=_
  unfold bindL
  rw [zh0 fun v hv=>(List.nodup_cons.mp nd).1 (List.of_mem_zip hv).1,qa4 hk]
  simp
 | p::P,w::vs,i+1,m,nd,h1,h2,hk=>by
  show bindL kindOf ((p,w)::P.zip vs) m x=_
  unfold bindL
  exact zhW (i:=i) (List.nodup_cons.mp nd).2 (by simpa using h1) (by simpa using h2) hk
theorem zh4 {kindOf:Str->Option NameKind} {x:Str} {v:Value}: ∀ {P:List Str} {vs:List Value} {i:Nat} {m:Str->Option Value},P.Nodup->P[i]? = some x->vs[i]? = some v->kindOf x≠some .local->
  bindC kindOf (P.zip vs) m x=some v
 | [],_,_,_,_,h,_,_=>by simp at h
 | _::_,[],_,_,_,_,h,_=>by simp at h
 | p::P,w::vs,0,m,nd,h1,h2,hk=>by
  simp at h1 h2;subst h1;subst h2
  show bindC kindOf ((p,w)::P.zip vs) m p=_
  unfold bindC
  rw [zhg fun v hv=>(List.nodup_cons.mp nd).1 (List.of_mem_zip hv).1,qa5 hk]
  simp
 | p::P,w::vs,i+1,m,nd,h1,h2,hk=>by
  show bindC kindOf ((p,w)::P.zip vs) m x=_
  unfold bindC
  exact zh4 (i:=i) (List.nodup_cons.mp nd).2 (by simpa using h1) (by simpa using h2) hk
noncomputable def zeV (N:List Str) (vs:List V):St:=vs.map some++List.replicate (N.length - vs.length) none
noncomputable def zib (CX:CXT) (P:Program) (w:World) (K:W.Frag) (mg:Str->Option Value) (base:Heap) (N:List Str) (qual:Str) (scope:Scope) (f:Addr) (cd:Value) (A:Around) (outer:List Env) (s:Shared) (H:Hp) (E:XK):Cx where
 prog:=P
 w:=w
 K:=K
 mg:=mg
 base:=base
 A:=A.deeper (envOfC qual scope s.heap.objs.size f cd)
 N:=N
 s₀:=s
 H₀:=H
 env:=envOfC qual scope s.heap.objs.size f cd
 outer:=outer
 stack:=envOfC qual scope s.heap.objs.size f cd::outer
 ex:=[]
 calm:=true
 fn:=fun _=>true
 pn:=[]
 xe:=fun e s'=>wpAny (model P w) (A.deeper (envOfC qual scope s.heap.objs.size f cd)) (leaving (envOfC qual scope s.heap.objs.size f cd) e) (fun _ s''=>CX outer H s E e s'') (fun e' s''=>CX outer H s E e' s'') s'
theorem zjl {sc:Scope} {n:Nat} {x:Str} (h:sc.names.lookup x=some .cell): ∃ c,(cellsFrom n sc.names []).lookup x=some c:=by
 have q:=W.cellsFrom_some sc.names n [] (.inl h)
 exact Option.isSome_iff_exists.mp q
theorem zhD {CX:CXT} {P:Program} {w:World} {K:W.Frag} {mg:Str->Option Value} {base:Heap} {N ps:List Str} {qual:Str} {scope:Scope} {f:Addr} {cd:Value} {A:Around} {outer:List Env} {s s1:Shared} {H:Hp} {E:XK} {us:List Value} {vs:List V}
  (S:zal N ps scope) {cm:Bool} (hd:cm=true->A.handled=none) (e0:znA P w K mg base A outer s H) (hl:vs.length=ps.length) (r:za7 vs us)
  (x:InCallC s s.heap.objs.size (bindL (envOfC qual scope s.heap.objs.size f cd).kindOf (ps.zip us) fun _=>none) (cellsFrom (s.heap.objs.size+1) scope.names []) (bindC (envOfC qual scope s.heap.objs.size f cd).kindOf (ps.zip us) fun _=>none) s1):
  Inv {zib CX P w K mg base N qual scope f cd A outer s H E with calm:=cm} [] (zeV N vs) H s1:=by
 have hpl:ps.length<=N.length:=by have:=congrArg List.length S.pre;rw [List.length_take] at this;omega
 obtain ⟨h1,tk,rfl,hk⟩:=x.done
 have noA: ∀ b:Addr,b∉(zib CX P w K mg base N qual scope f cd A outer s H E).ex:=fun b z=>absurd (show b∈([]:List Addr) from z) (by simp)
 refine ⟨⟨e0.mod,S.kind,rfl,rfl,qaV _,fun y z c h1 h2=> ?_,fun y hy=> ?_,fun y c _ h=> ?_,hd,e0.hand,Around.frames_deeper e0.frames,.inr ⟨rfl,rfl⟩,fun b z=>absurd z (noA b),e0.bs,e0.bsz,fun b _ _=>noA b,fun b z=>absurd z (noA b),e0.funs,e0.frf⟩,
   rfl,e0.bare,Un.kept hk,⟨_,x.toInCall.ns,fun i y v h1 h2 h3=> ?_⟩,fun y c h=>⟨_,x.cell y c h⟩,e0.hok.fresh (qaV _),fun y c h=> ?_,fun p hp=>absurd (show p∈([]:List (Addr×Obj)) from hp) (by simp),e0.hok.kept hk,?_⟩
 ·exact name_of_addr x.apart (PySem.mem_of_lookup h1) (PySem.mem_of_lookup h2)
 ·have hy:scope.names.lookup y=some .cell\/scope.names.lookup y=some .free:=hy
  rcases hy with hy | hy
  ·exact zjl hy
  ·exact absurd rfl (S.nofree _ (PySem.mem_of_lookup hy))
 ·exact Nat.le_of_lt (x.above y c (PySem.mem_of_lookup h))
 ·have hi:i<vs.length:=by
   unfold zeV at h2
   by_cases hi:i<vs.length
   ·exact hi
   ·rw [qaa (by simpa using hi)] at h2
    rw [List.getElem?_replicate] at h2
    split at h2<;>cases h2
  have ha:vs[i]? = some v:=by
   unfold zeV at h2
   rw [qad (by simpa using hi),List.getElem?_map] at h2
   cases e:vs[i]? with
   | none=>rw [e] at h2;cases h2
   | some a=>rw [e] at h2;cases h2;rfl
  obtain ⟨u,hu,rv⟩:=r.get ha
  have hp:ps[i]? = some y:=by
   rw [<- S.pre,List.getElem?_take_of_lt (by omega)];exact h1
  have ndP:ps.Nodup:=by rw [<- S.pre];exact S.nd.sublist (List.take_sublist _ _)
  refine ⟨u,rv,?_⟩
  rcases S.par y (List.mem_of_getElem? hp) with k | k
  ·exact .inl ⟨k,zhW ndP hp hu k⟩
  ·obtain ⟨c,e⟩:=zjl (n:=s.heap.objs.size+1) k
   refine .inr ⟨.inl k,c,e,?_⟩
   have q:=x.cell y c e
   rw [zh4 ndP hp hu (by show scope.names.lookup y≠_;rw [k];decide)] at q
   exact q
 ·exact e0.hok.fresh (Nat.le_of_lt (x.above y c (PySem.mem_of_lookup h)))
 ·unfold zeV
  show _=N.length
  rw [qav,qaH,List.length_replicate]
  omega
theorem zqP {CX:CXT} {P:Program} {w:World} {K:W.Frag} {mg:Str->Option Value} {base:Heap} {k:Nat} {f:Addr} {name qual:Str} {params:Arguments} {body:List Stmt} {scope:Scope} {dV kV doc pm cdv ct oc:Value} {an od:Option Addr}
  {osl:Array (Option Value)} {N ps:List Str} {sp:Sp} (lk:K.lookup f=some ⟨oc,od,.func (W.fnOf name qual params body scope dV kV doc pm an cdv ct),osl⟩) (hcd:W.codeIn K cdv qual=true) (S:zal N ps scope)
  (len: ∀ vs H Q E,sp vs H Q E->vs.length=ps.length)
  (hbody: ∀ (A:Around) (outer:List Env) (s:Shared) (H:Hp) (vs:List V) (Q:VK) (E:XK),zdV k (A.deeper (envOfC qual scope s.heap.objs.size f cdv))->sp vs H Q E->
    ∃ t,PSs (zib CX P w K mg base N qual scope f cdv A outer s H E) body t/\t {nx:=fun _ H'=>Q .non H',rt:=Q} (zeV N vs) H):
  zbq P w K mg base CX (k+1) f (W.fnOf name qual params body scope dV kV doc pm an cdv ct) ps sp:=by
 refine ⟨len,fun A outer s H args us vs Q E hr e0 hb r hsp=> ?_⟩
 have hl:=len _ _ _ _ hsp
 have KX:K.In s.heap:=e0.mod.kin.keeps fun b o e=>(e0.bs b o e).1
 have lim:s.heap.NoLimit:=e0.mod.nolimit.keeps fun b o e=>(e0.bs b o e).1
 have hkind: ∀ y∈ps.zip us,scope.names.lookup y.1=some .local\/(scope.names.lookup y.1=some .cell/\((cellsFrom (s.heap.objs.size+1) scope.names []).lookup y.1).isSome=true):=fun ⟨n,v⟩ hy=>by
  rcases S.par n (List.of_mem_zip hy).1 with q | q
  ·exact .inl q
  ·exact .inr ⟨q,W.cellsFrom_some _ _ _ (.inl q)⟩
 refine codeAny_call_function hr.depth (KX _ _ lk) rfl S.co S.gen rfl (W.codeRec_of KX hcd) (hb _ _ _ _ ?_)
 refine wpAny_newFunctionEnv_cells S.kind hkind fun env he s1 x=> ?_
 subst he
 refine ⟨lim.keeps x.toInCall.keep,codeAny_func ?_⟩
 obtain ⟨t,ht,hq⟩:=hbody A outer s H vs Q E (hr.deeper _) hsp
 have I:Inv (zib CX P w K mg base N qual scope f cdv A outer s H E) [] (zeV N vs) H s1:=zhD (cm:=true) S (fun _=>hr.hd) e0 hl r x
 refine qaZ (ht [] s1 (zeV N vs) H _ I hq) (fun fl s' hs=> ?_) fun e s' hs=>hs
 have fin: ∀ {σ':St} {H':Hp} {v:V} {u:Value},Inv (zib CX P w K mg base N qual scope f cdv A outer s H E) [] σ' H' s'->zb5 v u->Q v H'->CE outer P w H s Q u s':=
  fun {σ' H' v u} J rv q=>⟨v,H',J.os,J.bare,J.base,J.hok,rv,q⟩
 cases fl with
 | ret u=>
  obtain ⟨v,σ',H',J,rv,q⟩:=hs
  exact fin J rv q
 | next=>
  obtain ⟨σ',H',J,q⟩:=hs
  exact fin (v:=V.non) (u:=Value.none) J rfl q
 | brk=>
  obtain ⟨_,_,_,q⟩:=hs
  exact qa0 q
 | cont=>
  obtain ⟨_,_,_,q⟩:=hs
  exact qa0 q
section
variable {X:Cx} {x:Str} {p pos:Pos} {e:Expr} {es:List Expr} {t:TA} {id T:String} {r:List V->Hp->VK->Prop}
noncomputable def tCB (r:List V->Hp->VK->Prop) (t:TA):TE:=fun σ H Q=>t σ H fun vs H1=>r vs H1 Q
theorem ze9 (hc:za0 X (.builtin id) r) (hg:Gl X x) (hm:X.mg x=none) (hv:bootBuiltins x=some (.builtin id)) (ha:PA X (e::es) t) (hn:x≠"__name__":=by decide) (hdb:(x==("__debug__":Str))=false:=by decide)
  (he:starEach (e::es) X.env=(false,eval e X.env)::starEach es X.env:=by rfl) (hpl:(backTo pos (starEach es X.env)).any (·.1)=false:=by rfl):PE X (.Call (.Name x p) (e::es) [] pos) (tCB r t):=by
 intro pins s σ H Q I h
 refine wpAny_Call_Name_kw (zgj I hg hm hv ?_ hn hdb)
 exact PyProof.Rows.callWith_builtin1 (thn (ha pos pins s σ H _ I h) fun us s1 ⟨vs,H1,I1,r1,q1⟩=>hc pins s1 σ H1 vs us Q I1 r1 q1) he hpl
theorem zc2 (hc:za0 X (.type T) r) (hg:Gl X x) (hm:X.mg x=none) (hv:bootBuiltins x=some (.type T)) (ha:PA X (e::es) t) (hn:x≠"__name__":=by decide) (hdb:(x==("__debug__":Str))=false:=by decide)
  (he:starEach (e::es) X.env=(false,eval e X.env)::starEach es X.env:=by rfl) (hpl:(backTo pos (starEach es X.env)).any (·.1)=false:=by rfl):PE X (.Call (.Name x p) (e::es) [] pos) (tCB r t):=by
 intro pins s σ H Q I h
 refine wpAny_Call_Name_kw (zgj I hg hm hv ?_ hn hdb)
 exact PyProof.Rows.callWith_type1 (thn (ha pos pins s σ H _ I h) fun us s1 ⟨vs,H1,I1,r1,q1⟩=>hc pins s1 σ H1 vs us Q I1 r1 q1) he hpl
end
end L2
namespace HT
open PySem PyProof.Rows
section
open PySem.SeqAt
open PySem.AutoSeq1 (wpAny_loadPart')
open PySem.MeetsSeq PySem.MeetsSeq2 PySem.MeetsSeq3
end
section
variable {prog:Program} {w:World} {A:Around} {E:Value->Shared->Prop} {s:Shared}
theorem zoY {t b:Addr} {vs ws:List Value} {Q:Value->Shared->Prop} (ht:IsTup s.heap t vs.toArray) (hb:IsTup s.heap b ws.toArray) (hv:vs≠[])
  (h1:ws=[]->Q (.ref t) s) (h2:ws≠[]->Q (.ref s.heap.objs.size) {s with heap:=s.heap.push {cls:= .type "tuple",data:= .seq (vs++ws).toArray}})
  (hsz:vs.length+ws.length<=sizeLine):wpAny (model prog w) A (binaryOp .Add (.ref t) (.ref b)) Q E s:=by
 obtain ⟨⟨cls,dd,data,sl⟩,ho,hc,n,hd⟩:=id ht
 obtain ⟨⟨cls2,dd2,data2,sl2⟩,ho2,hc2,n2,hd2⟩:=id hb
 simp only at hc hd hc2 hd2
 subst hc hd hc2 hd2
 have e:vs.toArray++ws.toArray=(vs++ws).toArray:=by simp
 by_cases hw:ws=[]
 ·exact concat_meets ⟨_,ho,rfl⟩ ⟨_,ho2,rfl⟩ noFill_tuple_add seq_tuple_add PySem.F.slot_tuple_add PySem.F.entry_tuple_add (PySem.F.args_tuple_add_2 _ _)
   (tuple_addW1 t b vs.toArray ws.toArray n n2 dd dd2 sl sl2 (by simpa using hv) (by simp [hw])) ⟨ho,ho2,h1 hw⟩
 ·refine concat_meets ⟨_,ho,rfl⟩ ⟨_,ho2,rfl⟩ noFill_tuple_add seq_tuple_add PySem.F.slot_tuple_add PySem.F.entry_tuple_add (PySem.F.args_tuple_add_2 _ _)
   (tuple_addW2 t b vs.toArray ws.toArray n n2 dd dd2 sl sl2 (by simpa using hv) (by simpa using hw) (by rw [qaA,qaA];exact hsz)) ⟨ho,ho2,?_⟩
  rw [e]
  exact h2 hw
noncomputable def sIx (n d:Nat):Option Int->Nat
 | none=>d
 | some v=>if v<0 then (v+(n:Int)).toNat else min v.toNat n
theorem zkv (n d k:Nat):sIx n d (some (k:Int))=min k n:=by
 show (if (k:Int)<0 then ((k:Int)+(n:Int)).toNat else min (k:Int).toNat n)=min k n
 rw [qa5 (by omega),qaB]
theorem zse (n d:Nat) (hd:d<=n) (o:Option Int):sIx n d o<=n:=by
 cases o with
 | none=>exact hd
 | some v=>
  show (if v<0 then (v+(n:Int)).toNat else min v.toNat n)<=n
  by_cases hv:v<0
  ·rw [qa4 hv];omega
  ·rw [qa5 hv];exact Nat.min_le_right _ _
theorem zku (v:Int) (n d:Nat):(if v<0 then max (v+(n:Int)) 0 else min v (n:Int))=((sIx n d (some v):Nat):Int):=by
 show (if v<0 then max (v+(n:Int)) 0 else min v (n:Int))=(((if v<0 then (v+(n:Int)).toNat else min v.toNat n):Nat):Int)
 by_cases hv:v<0
 ·simp only [qa4 hv];omega
 ·simp only [qa5 hv];omega
theorem zjV (lo hi:Option Int) (n:Nat):Builtin.Slice.sliceAdjust lo hi 1 (n:Int)=(((sIx n 0 lo:Nat):Int),((sIx n n hi:Nat):Int)):=by
 have h1: ¬((1:Int)<0):=by omega
 unfold Builtin.Slice.sliceAdjust
 simp only [h1,if_false]
 refine Prod.ext ?_ ?_
 ·cases lo with
  | none=>rfl
  | some v=>exact zku v n 0
 ·cases hi with
  | none=>rfl
  | some v=>exact zku v n n
theorem zka (i j:Nat):Builtin.Slice.slicePlaces (i:Int) (j:Int) 1=j - i:=by
 unfold Builtin.Slice.slicePlaces
 have h1:(1:Int)>0:=by omega
 simp only [h1,if_true,Int.ediv_one]
 split<;>omega
theorem zgf {v:Value} {o:Option Int} {Q:Option Int->Shared->Prop} (p:IsPart v o) (h:Q o s):wpAny (model prog w) A (Builtin.Slice.slicePartIndex v) Q E s:=by
 cases p with
 | none=>exact slicePart_none h
 | int i t=>exact slicePart_int h
theorem zdk {sl:Addr} {vl vu:Value} {lo hi:Option Int} {n:Nat} {Q:Int×Int×Nat->Shared->Prop} (hs:s.heap.IsSliceOf sl vl vu .none) (pl:IsPart vl lo) (pu:IsPart vu hi)
  (h:Q (((sIx n 0 lo:Nat):Int),1,sIx n n hi - sIx n 0 lo) s):wpAny (model prog w) A (Builtin.Slice.sliceApplied (.ref sl) (pure (n:Int))) Q E s:=by
 obtain ⟨os,hos,hcs,hds⟩:=id hs
 unfold Builtin.Slice.sliceApplied Builtin.Slice.sliceFields
 refine qaW (qaW (wpAny_field hos hds (x:=vl) rfl (qaW (wpAny_field hos hds (x:=vu) rfl (qaW (wpAny_field hos hds (x:= .none) rfl (qaX ?_)))))))
 refine qaW (slicePart_none ?_)
 show wpAny _ _ (if ((1:Int)==0)=true then _ else _) _ _ s
 rw [qa5 (by decide)]
 refine qaW (zgf pl (qaW (zgf pu (qaW (qaX ?_)))))
 show wpAny _ _ (match Builtin.Slice.sliceAdjust lo hi 1 (n:Int) with | (lo,hi)=>pure (lo,(1:Int),Builtin.Slice.slicePlaces lo hi 1)) _ _ s
 rw [zjV lo hi n]
 show wpAny _ _ (pure (((sIx n 0 lo:Nat):Int),(1:Int),Builtin.Slice.slicePlaces ((sIx n 0 lo:Nat):Int) ((sIx n n hi:Nat):Int) 1)) _ _ s
 rw [zka]
 exact qaX h
theorem znm (xs:Array Value) (i k:Nat):((List.range k).filterMap fun (m:Nat)=>xs[((i:Int)+(m:Int)*1).toNat]?).toArray=((xs.toList.drop i).take k).toArray:=by
 have e:(fun (m:Nat)=>xs[((i:Int)+(m:Int)*1).toNat]?)=fun m=>xs[i+m]? := by
  funext m
  have:((i:Int)+(m:Int)*1).toNat=i+m:=by omega
  rw [this]
 rw [e]
 have:=pick_run xs i k
 rw [List.filterMap_map] at this
 have e2:((fun x=>xs[x]?)∘fun x=>i+x)=fun m=>xs[i+m]? := rfl
 rw [e2] at this
 rw [this]
theorem zeN {t sl:Addr} {items:Array Value} {vl vu:Value} {lo hi:Option Int} {Q:Value->Shared->Prop} (ht:IsTup s.heap t items) (hs:s.heap.IsSliceOf sl vl vu .none) (pl:IsPart vl lo) (pu:IsPart vu hi)
  (hw: ¬(sIx items.size 0 lo=0/\sIx items.size items.size hi=items.size))
  (h:Q (.ref s.heap.objs.size) {s with heap:=s.heap.push {cls:= .type "tuple",data:= .seq ((items.toList.drop (sIx items.size 0 lo)).take (sIx items.size items.size hi - sIx items.size 0 lo)).toArray}})
  (hsz:items.size<=sizeLine):wpAny (model prog w) A (getItem (.ref t) (.ref sl)) Q E s:=by
 have htake:sizeOk (.seq ((items.toList.drop (sIx items.size 0 lo)).take (sIx items.size items.size hi - sIx items.size 0 lo)).toArray):=by
  show ((items.toList.drop (sIx items.size 0 lo)).take (sIx items.size items.size hi - sIx items.size 0 lo)).toArray.size<=sizeLine
  rw [qaA,List.length_take,List.length_drop,qas]
  omega
 have hj:sIx items.size items.size hi<=items.size:=zse _ _ (qaV _) hi
 obtain ⟨os,hos,hcs,hds⟩:=id hs
 have hTs:s.TypeIs (.ref sl) "slice":=⟨os,hos,hcs⟩
 unfold getItem
 try with_reducible refine qaO ?_
 first | refine qaW (qaX ?_) | skip
 refine qaW (wpAny_sequenceKey ht.typeIs (by decide) ?_)
 refine qaW (wpAny_callSpecial?_slot (name:=Str.ofString "__getitem__") ht.typeIs PyProof.Rows.slot_tuple_getitem
   (wpAny_call_entry PyProof.Rows.slot_tuple_getitem ht.typeIs entry_tuple_getitem ?_ (args_tuple_getitem _ _)))
 show wpAny _ _ (Builtin.Tuple.tupleItemsOf (.ref t)>>=_) _ _ s
 refine qaW (tupleItemsOf_ ht ?_)
 refine qaW (wpAny_typeOf hTs ?_)
 rw [qa4 (by decide)]
 refine qaW (zdk hs pl pu ?_)
 have hno: ¬((((sIx items.size 0 lo:Nat):Int)==0 && (1:Int)==1 && (sIx items.size items.size hi - sIx items.size 0 lo)==items.size)=true):=by
  intro q
  rw [qaG,qaG] at q
  have q1:((sIx items.size 0 lo:Nat):Int)=0:=eq_of_beq q.1.1
  have q2:sIx items.size items.size hi - sIx items.size 0 lo=items.size:=eq_of_beq q.2
  exact hw ⟨by omega,by omega⟩
 show wpAny _ _ (if (((sIx items.size 0 lo:Nat):Int)==0 && (1:Int)==1 && (sIx items.size items.size hi - sIx items.size 0 lo)==items.size)=true then _ else _) _ _ s
 rw [qa5 hno,znm]
 first
  | exact qaW (m:=Builtin.Tuple.tupleExact _) (qaC (qaX ⟨_,rfl,qaX h⟩) htake)
  | exact qaW (m:=Builtin.Tuple.tupleExact _) (qaC (qaW (qaX (qaX ⟨_,rfl,qaX h⟩))) htake)
  | exact qaW (qaW (m:=Builtin.Tuple.tupleExact _) (qaC (qaX (qaX ⟨_,rfl,qaX h⟩)) htake))
  | exact qaW (qaW (m:=Builtin.Tuple.tupleExact _) (qaC (qaX ⟨_,rfl,qaX h⟩) htake))
end
end HT
namespace L2
open PySem PySem.Spec PyProof.Rows
noncomputable abbrev TO:=St->Hp->(Option Int->Hp->Prop)->Prop
def PO (X:Cx) (e:Option Expr) (t:TO):Prop:=
 ∀ (pins:List (Addr×Obj)) (s:Shared) (σ:St) (H:Hp) (Q:Option Int->Hp->Prop),Inv X pins σ H s->t σ H Q->
  wpAny (model X.prog X.w) X.A (evalPart e X.env) (fun u s'=> ∃ o H',Inv X pins σ H' s'/\IsPart u o/\Q o H') X.xe s
noncomputable def zpU:TO:=fun _ H Q=>Q none H
noncomputable def ztP (t:TE):TO:=fun σ H Q=>t σ H fun x H1=> ∃ i,x= .int i/\Q (some i) H1
theorem zdM {ns:List Int}: ∀ {us:List Value},za7 (ns.map V.int) us->IntsAre us ns:=by
 induction ns with
 | nil=>intro us r;rw [List.map_nil] at r;cases r;exact .nil
 | cons n ns ih=>
  intro us r
  rw [qaM] at r
  cases r with
  | cons r1 r2=>
   obtain ⟨t,e⟩:=r1
   subst e
   exact .cons n t (ih r2)
section
variable {X:Cx} {e:Expr} {te:TE} {lo hi:Option Expr} {tl th:TO} {pos p2:Pos}
theorem zoT:PO X none zpU:=by
 intro pins s σ H Q I h
 rw [evalPart_none]
 exact qaX ⟨none,H,I,.none,h⟩
theorem zpY (h:PE X e te):PO X (some e) (ztP te):=by
 intro pins s σ H Q I hw
 rw [evalPart_some]
 refine thn (h pins s σ H _ I hw) fun u s1 ⟨x,H1,I1,r1,q1⟩=> ?_
 obtain ⟨i,rfl,q⟩:=q1
 obtain ⟨t,rfl⟩:=r1
 exact ⟨some i,H1,I1,.int i t,q⟩
def SlR (X:Cx) (r:V->Option Int->Option Int->Hp->VK->Prop):Prop:=
 ∀ (pins:List (Addr×Obj)) (s:Shared) (σ:St) (H:Hp) (x:V) (v vl vu:Value) (lo hi:Option Int) (sl:Addr) (Q:VK),Inv X pins σ H s->zb5 x v->s.heap.IsSliceOf sl vl vu .none->IsPart vl lo->IsPart vu hi->r x lo hi H Q->
  ∃ T id,typeLookup (.type T) "__getitem__"=pure (some (.builtin id))/\s.TypeIs v T/\wpAny (model X.prog X.w) X.A (getItem v (.ref sl)) (EP X pins σ Q) X.xe s
theorem SlR.or {r r':V->Option Int->Option Int->Hp->VK->Prop} (h:SlR X r) (h':SlR X r'):SlR X (fun x lo hi H Q=>r x lo hi H Q\/r' x lo hi H Q):=by
 intro pins s σ H x v vl vu lo hi sl Q I rx hs pl pu q
 rcases q with q | q
 ·exact h pins s σ H x v vl vu lo hi sl Q I rx hs pl pu q
 ·exact h' pins s σ H x v vl vu lo hi sl Q I rx hs pl pu q
noncomputable def tSl (r:V->Option Int->Option Int->Hp->VK->Prop) (te:TE) (tl th:TO):TE:=fun σ H Q=>te σ H fun x H1=>tl σ H1 fun l H2=>th σ H2 fun u H3=>r x l u H3 Q
theorem znO {r:V->Option Int->Option Int->Hp->VK->Prop} (hr:SlR X r) (he:PE X e te) (hl:PO X lo tl) (hu:PO X hi th):PE X (.Subscript e (.Slice lo hi none p2) pos) (tSl r te tl th):=by
 intro pins s σ H Q I h
 refine Subscript_ (thn (he pins s σ H _ I h) fun v s1 ⟨x,H1,I1,r1,q1⟩=> ?_)
 refine wpAny_Slice (thn (hl pins s1 σ H1 _ I1 q1) fun vl s2 ⟨l,H2,I2,pl,q2⟩=>thn (hu pins s2 σ H2 _ I2 q2) fun vu s3 ⟨u,H3,I3,pu,q3⟩=> ?_)
 rw [evalPart_none]
 refine qaX ?_
 have I4:Inv X pins σ H3 {s3 with heap:=s3.heap.push {cls:= .type "slice",data:= .fields #[vl,vu,.none]}}:=I3.kept (t':=s3.toks) fun b ob q=>qag _ q
 obtain ⟨T,id,hT,ht,hg⟩:=hr pins {s3 with heap:=s3.heap.push {cls:= .type "slice",data:= .fields #[vl,vu,.none]}} σ H3 x v vl vu l u s3.heap.objs.size Q I4 r1 (Heap.IsSliceOf.new ..) pl pu q3
 show wpAny (model X.prog X.w) X.A (subscriptTail e (.Slice lo hi none p2) v (.ref s3.heap.objs.size)) (EP X pins σ Q) X.xe {s3 with heap:=s3.heap.push {cls:= .type "slice",data:= .fields #[vl,vu,.none]}}
 exact tail_any (ops:=[.ref s3.heap.objs.size,v]) ht hT hg (by with_unfolding_all rfl)
noncomputable def zn8 (xs:List V) (lo hi:Option Int):List V:=(xs.drop (HT.sIx xs.length 0 lo)).take (HT.sIx xs.length xs.length hi - HT.sIx xs.length 0 lo)
theorem zfR (xs:List V) (lo hi:Option Int):(zn8 xs lo hi).length<=xs.length:=by
 unfold zn8
 rw [List.length_take,List.length_drop]
 omega
noncomputable def zuV (K:W.Frag):V->Option Int->Option Int->Hp->VK->Prop:=fun x lo hi H Q=> ∃ a xs,x= .ref a/\SqT K H a xs/\
 ¬ (HT.sIx xs.length 0 lo=0/\HT.sIx xs.length xs.length hi=xs.length)/\ ∀ p,H p=none->Q (.ref p) (upd H p (.tup (zn8 xs lo hi)))
theorem zsh:SlR X (zuV X.K):=by
 intro pins s σ H x v vl vu lo hi sl Q I rx hs pl pu h
 obtain ⟨a,xs,rfl,hx,hw,q⟩:=h
 cases rx
 obtain ⟨its,r,ht,hz⟩:=I.tuple hx
 have hlen:its.toArray.size=xs.length:=by rw [qaA];exact r.length.symm
 refine ⟨"tuple",_,PyProof.Rows.slot_tuple_getitem.lookup,ht.typeIs,?_⟩
 refine HT.zeN ht hs pl pu (by rw [hlen];exact hw) ?_ (by rw [hlen];exact hz)
 rw [hlen]
 refine ⟨.ref s.heap.objs.size,_,I.laid (t':=s.toks) (o:= .tup (zn8 xs lo hi)) (fun b ob q=>qag _ q) (qaV _) ?_,rfl,q _ (I.hok.fresh (qaV _))⟩
 exact ⟨qaS (zfR xs lo hi) hz,_,(r.drop (HT.sIx xs.length 0 lo)).take (HT.sIx xs.length xs.length hi - HT.sIx xs.length 0 lo),IsTup.new _ _⟩
noncomputable def zty (K:W.Frag):R2:=fun x y H Q=> ∃ a b xs ys,x= .ref a/\y= .ref b/\SqT K H a xs/\SqT K H b ys/\xs≠[]/\xs.length+ys.length<=sizeLine/\
 (ys=[]->Q (.ref a) H)/\(ys≠[]-> ∀ p,H p=none->Q (.ref p) (upd H p (.tup (xs++ys))))
theorem za7.nil_iff {xs:List V} {us:List Value} (r:za7 xs us):us=[]↔xs=[]:=by
 cases r with
 | nil=>simp
 | cons _ _=>simp
theorem zo8:OpR X (binaryOp .Add) (zty X.K):=by
 intro pins s σ H x y v u Q I rx ry h
 obtain ⟨a,b,xs,ys,rfl,rfl,ha,hb,hx,hz,q1,q2⟩:=h
 cases rx
 cases ry
 obtain ⟨its,r1,p1,_⟩:=I.tuple ha
 obtain ⟨its2,r2,p2,_⟩:=I.tuple hb
 refine HT.zoY p1 p2 (fun z=>hx (r1.nil_iff.mp z)) (fun z=>⟨.ref a,H,I,rfl,q1 (r2.nil_iff.mp z)⟩) (fun z=> ?_) (by rw [<- r1.length, <-r2.length];exact hz)
 refine ⟨.ref s.heap.objs.size,_,I.laid (t':=s.toks) (o:= .tup (xs++ys)) (fun b ob q=>qag _ q) (qaV _) ?_,rfl,q2 (fun w=>z (r2.nil_iff.mpr w)) _ (I.hok.fresh (qaV _))⟩
 exact ⟨by rw [qav];exact hz,_,r1.append r2,IsTup.new _ _⟩
end
noncomputable def ixN (n:Nat) (i:Int):Option Nat:=if 0<=i then (if i<n then some i.toNat else none) else if -(n:Int)<=i then some (i+n).toNat else none
noncomputable def atI {α:Type} (xs:List α) (i:Int):Option α:=(ixN xs.length i).bind fun j=>xs[j]?
theorem zlm {n:Nat} {i:Int} {j:Nat} (h:ixN n i=some j):seqIndex? i n=some j/\j<n/\ -(n:Int)<=i/\i<n:=by
 unfold ixN at h
 by_cases h0:0<=i
 ·rw [qa4 h0] at h
  by_cases h1:i<n
  ·rw [qa4 h1] at h
   have e:i.toNat=j:=Option.some.inj h
   exact ⟨by rw [seqIndex_of h0 h1,e],by omega,by omega,h1⟩
  ·rw [qa5 h1] at h;cases h
 ·rw [qa5 h0] at h
  by_cases h1: -(n:Int)<=i
  ·rw [qa4 h1] at h
   have e:(i+n).toNat=j:=Option.some.inj h
   exact ⟨by rw [seqIndex_neg (by omega) h1,e],by omega,h1,by omega⟩
  ·rw [qa5 h1] at h;cases h
theorem zlD {α:Type} {xs:List α} {i:Int} {v:α} (h:atI xs i=some v): ∃ j,seqIndex? i xs.length=some j/\xs[j]? = some v/\j<xs.length/\ -(xs.length:Int)<=i/\i<xs.length:=by
 unfold atI at h
 cases e:ixN xs.length i with
 | none=>rw [e] at h;cases h
 | some j=>
  rw [e] at h
  obtain ⟨h1,h2,h3,h4⟩:=zlm e
  exact ⟨j,h1,h,h2,h3,h4⟩
theorem zd6 {α:Type} {xs:List α} {j:Nat} {v:α} (h:xs[j]? = some v):atI xs (j:Int)=some v:=by
 have hj:j<xs.length:=(qac.mp h).1
 have e:ixN xs.length (j:Int)=some j:=by
  unfold ixN
  rw [qa4 (by omega),qa4 (by omega)];simp
 unfold atI;rw [e];exact h
theorem zgQ {α:Type} (xs:List α) (v:α):atI (xs++[v]) (-1)=some v:=by
 have hl:(xs++[v]).length=xs.length+1:=by simp
 have e:ixN (xs++[v]).length (-1)=some xs.length:=by
  unfold ixN
  rw [hl,qa5 (by decide),qa4 (by omega)]
  congr 1
  omega
 unfold atI
 rw [e]
 show (xs++[v])[xs.length]? = some v
 simp
def zgI (b:Expr):Prop:= ∀ o i,subscripted b false o i=operate [o,i] (getItem o i)
def IxR (X:Cx) (r:R2):Prop:=
 ∀ (value slice:Expr) (pins:List (Addr×Obj)) (s:Shared) (σ:St) (H:Hp) (x y:V) (v u:Value) (Q:VK),Inv X pins σ H s->zb5 x v->zb5 y u->r x y H Q->
  subscripted slice false v u=operate [v,u] (getItem v u)->wpAny (model X.prog X.w) X.A (subscriptTail value slice v u) (EP X pins σ Q) X.xe s
def MtR (X:Cx) (id:String) (r:V->List V->Hp->VK->Prop):Prop:=
 ∀ (pins:List (Addr×Obj)) (s:Shared) (σ:St) (H:Hp) (x:V) (xs:List V) (v:Value) (us:List Value) (Q:VK),Inv X pins σ H s->zb5 x v->za7 xs us->r x xs H Q->
  wpAny (model X.prog X.w) X.A (call (.builtin id) (v::us)) (EP X pins σ Q) X.xe s
section
variable {X:Cx} {a b:Expr} {ta tb:TE} {pos:Pos}
theorem IxR.or {r r':R2} (h:IxR X r) (h':IxR X r'):IxR X (fun x y H Q=>r x y H Q\/r' x y H Q):=by
 intro value slice pins s σ H x y v u Q I rx ry q hs
 rcases q with q | q
 ·exact h value slice pins s σ H x y v u Q I rx ry q hs
 ·exact h' value slice pins s σ H x y v u Q I rx ry q hs
theorem MtR.or {id:String} {r r':V->List V->Hp->VK->Prop} (h:MtR X id r) (h':MtR X id r'):MtR X id (fun x xs H Q=>r x xs H Q\/r' x xs H Q):=by
 intro pins s σ H x xs v us Q I rx rs q
 rcases q with q | q
 ·exact h pins s σ H x xs v us Q I rx rs q
 ·exact h' pins s σ H x xs v us Q I rx rs q
theorem zrx {r:R2} (hr:IxR X r) (ha:PE X a ta) (hb:PE X b tb) (hs:zgI b):PE X (.Subscript a b pos) (tOp r ta tb):=by
 intro pins s σ H Q I h
 exact Subscript_ (zum ha hb I h fun v u s2 x y H2 I2 rx ry q=>hr a b pins s2 σ H2 x y v u Q I2 rx ry q (hs _ _))
noncomputable def zu3 (K:W.Frag):R2:=fun x y H Q=> ∃ p xs i v,x= .ref p/\y= .int i/\SqL K H p xs/\atI xs i=some v/\Q v H
noncomputable def zuJ (K:W.Frag):R2:=fun x y H Q=> ∃ p xs i v,x= .ref p/\y= .int i/\SqT K H p xs/\atI xs i=some v/\Q v H
theorem zlS:IxR X (zu3 X.K):=by
 intro value slice pins s σ H x y v u Q I rx ry h hs
 obtain ⟨p,xs,i,z,rfl,rfl,hq,he,q⟩:=h
 cases rx
 obtain ⟨t,rfl⟩:=ry
 obtain ⟨its,r,pl,hz⟩:=I.list hq
 obtain ⟨j,h1,h2,h3,h4,h5⟩:=zlD he
 obtain ⟨w,ew,rw'⟩:=r.get h2
 have hl:=r.length
 have hn:=zhk
 have fin:EP X pins σ Q w s:=⟨z,H,I,rw',q⟩
 by_cases h0:0<=i
 ·have hj:i.toNat=j:=by
   rw [seqIndex_of h0 h5] at h1
   exact Option.some.inj h1
  exact item_listR pl.isList h0 (by omega) (by rw [hj];simpa using ew) fin hs
 ·have hj:(i+(its.toArray.size:Int)).toNat=j:=by
   rw [seqIndex_neg (by omega) h4] at h1
   rw [qaA, <-hl]
   exact Option.some.inj h1
  exact subscriptTail_builtinR (x:=w) pl.isList.typeIs slot_list_getitem.lookup
   (wpAny_getItem_list_neg (Q:=fun r s'=>r=w/\EP X pins σ Q r s') pl.isList (by omega) (by rw [qaA]<;>omega) (by omega) (by rw [hj];simpa using ew) ⟨rfl,fin⟩) hs
theorem zrp:IxR X (zuJ X.K):=by
 intro value slice pins s σ H x y v u Q I rx ry h hs
 obtain ⟨p,xs,i,z,rfl,rfl,hq,he,q⟩:=h
 cases rx
 obtain ⟨t,rfl⟩:=ry
 obtain ⟨its,r,pl,hz⟩:=I.tuple hq
 obtain ⟨j,h1,h2,h3,h4,h5⟩:=zlD he
 obtain ⟨w,ew,rw'⟩:=r.get h2
 have hl:=r.length
 have hn:=zhk
 have fin:EP X pins σ Q w s:=⟨z,H,I,rw',q⟩
 exact subscriptTail_builtinR (x:=w) pl.typeIs slot_tuple_getitem.lookup
  (getItem_tuple (j:=j) (Q:=fun r s'=>r=w/\EP X pins σ Q r s') pl (by omega) (by omega) (by rw [qaA, <-hl];exact h1) (by simpa using ew) ⟨rfl,fin⟩) hs
theorem zj2 (its:List Value) (n j:Nat) (u:Value):Obj.mapSeq (·.setIfInBounds j u) {cls:= .type "list",data:= .seq its.toArray n}={cls:= .type "list",data:= .seq (its.set j u).toArray n}:=by
 simp [Obj.mapSeq]
theorem Inv.lst {pins:List (Addr×Obj)} {σ:St} {H:Hp} {s:Shared} {p:Addr} {xs:List V} (I:Inv X pins σ H s) (h:H p=some (.lst xs)):
  ∃ (its:List Value) (n:Nat),za7 xs its/\s.heap.get? p=some {cls:= .type "list",data:= .seq its.toArray n}/\xs.length<=sizeLine:=by
 obtain ⟨z,its,n,r,e⟩:=I.hok p _ h
 exact ⟨its,n,r,e,z⟩
theorem Inv.lstUpd {pins:List (Addr×Obj)} {σ:St} {H:Hp} {s:Shared} {p:Addr} {xs ys:List V} {its its':List Value} {n n':Nat} {f:Obj->Obj} (I:Inv X pins σ H s) (h:H p=some (.lst xs))
  (ho:s.heap.get? p=some {cls:= .type "list",data:= .seq its.toArray n}) (hf:f {cls:= .type "list",data:= .seq its.toArray n}={cls:= .type "list",data:= .seq its'.toArray n'}) (r:za7 ys its') (hz:ys.length<=sizeLine) (t:Nat):
  Inv X pins σ (upd H p (.lst ys)) {s with heap:=s.heap.update p f,toks:=t}:=by
 have e:(s.heap.update p f).get? p=some {cls:= .type "list",data:= .seq its'.toArray n'}:=by
  rw [qal f ho (by rw [hf]<;>rfl),hf]
 refine I.write (x:=p) (e:=p) (by rw [h];trivial) (.inl rfl) (fun b u hb q=>(qah _ _ (Ne.symm hb)).trans q) ⟨_,e⟩ ?_
 exact ⟨hz,its',n',r,e⟩
noncomputable def ztc:V->V->V->Hp->(Hp->Prop)->Prop:=fun o i v H Q=> ∃ p xs k j,o= .ref p/\i= .int k/\H p=some (.lst xs)/\ixN xs.length k=some j/\Q (upd H p (.lst (xs.set j v)))
theorem znt:zqu X ztc:=by
 intro pins s σ H o i v ov iv u Q I ro ri rv h
 obtain ⟨p,xs,k,j,rfl,rfl,hp,hj,q⟩:=h
 cases ro
 obtain ⟨t,rfl⟩:=ri
 obtain ⟨its,n,r,ho,hz⟩:=I.lst hp
 obtain ⟨h1,h2,h3,h4⟩:=zlm hj
 have hl:=r.length
 have hn:=zhk
 have I':Inv X pins σ (upd H p (.lst (xs.set j v))) {s with heap:=s.heap.update p (Obj.mapSeq (·.setIfInBounds j u))}:=
  I.lstUpd hp ho (zj2 its n j u) (r.set rv j) (by rw [qaI];exact hz) s.toks
 by_cases h0:0<=k
 ·have hk:k.toNat=j:=by
   rw [seqIndex_of h0 h4] at h1
   exact Option.some.inj h1
  exact W.ki_setAt ho h0 (by omega) (by rw [qaA, <-hl];exact h4) (by rw [hk];exact ⟨_,I',q⟩)
 ·have hk:(k+(its.toArray.size:Int)).toNat=j:=by
   rw [seqIndex_neg (by omega) h3] at h1
   rw [qaA, <-hl]
   exact Option.some.inj h1
  exact W.ki_setBack ho (by omega) (by rw [qaA, <-hl];exact h3) (by omega) (by rw [hk];exact ⟨_,I',q⟩)
theorem zhz (lo hi:Option Int) (n:Nat):(sliceBounds lo hi none n).1=((HT.sIx n 0 lo:Nat):Int)/\(sliceBounds lo hi none n).2.1=((HT.sIx n n hi:Nat):Int)/\(sliceBounds lo hi none n).2.2=1:=by
 refine ⟨?_,?_,rfl⟩
 ·cases lo with
  | none=>simp [sliceBounds,HT.sIx]
  | some i=>
   simp only [sliceBounds,HT.sIx,Option.getD_none,show (1:Int)>0 by decide,if_true]
   by_cases h:i<0
   ·simp only [h,if_true]<;>omega
   ·simp only [h,if_false]<;>omega
 ·cases hi with
  | none=>simp [sliceBounds,HT.sIx]
  | some i=>
   simp only [sliceBounds,HT.sIx,Option.getD_none,show (1:Int)>0 by decide,if_true]
   by_cases h:i<0
   ·simp only [h,if_true]<;>omega
   ·simp only [h,if_false]<;>omega
theorem zgG (its:List Value) (lo hi:Option Int):slicePick its.toArray lo hi none=((its.drop (HT.sIx its.length 0 lo)).take (HT.sIx its.length its.length hi - HT.sIx its.length 0 lo)).toArray:=by
 obtain ⟨h1,h2,h3⟩:=zhz lo hi its.toArray.size
 unfold slicePick
 rw [h1,h2,h3]
 simp only [sliceRange_one,pick_run,qaA]<;>rfl
noncomputable def zuO (K:W.Frag):V->Option Int->Option Int->Hp->VK->Prop:=fun x lo hi H Q=> ∃ a xs,x= .ref a/\SqL K H a xs/\ ∀ p,H p=none->Q (.ref p) (upd H p (.lst (zn8 xs lo hi)))
theorem zoO:SlR X (zuO X.K):=by
 intro pins s σ H x v vl vu lo hi sl Q I rx hs pl pu h
 obtain ⟨a,xs,rfl,hx,q⟩:=h
 cases rx
 obtain ⟨its,r,ht,hz⟩:=I.list hx
 have hlen:=r.length
 refine ⟨"list",_,slot_list_getitem.lookup,ht.isList.typeIs,?_⟩
 refine wpAny_getItem_list_slice ht.isList hs pl pu .none (by simp) ?_ (by rw [qaA]<;>omega)
 rw [zgG, <-hlen]
 refine ⟨.ref s.heap.objs.size,_,I.laid (t':=s.toks) (o:= .lst (zn8 xs lo hi)) (fun b ob q=>qag _ q) (qaV _) ?_,rfl,q _ (I.hok.fresh (qaV _))⟩
 exact ⟨qaS (zfR xs lo hi) hz,_,0,(r.drop (HT.sIx xs.length 0 lo)).take (HT.sIx xs.length xs.length hi - HT.sIx xs.length 0 lo),qar _ rfl⟩
theorem zhr:za0 X (.builtin "len") (fun xs H Q=> ∃ p ys,xs=[.ref p]/\(SqL X.K H p ys\/SqT X.K H p ys)/\Q (.int ys.length) H):=by
 intro pins s σ H xs us Q I r h
 obtain ⟨p,ys,rfl,hq,q⟩:=h
 obtain ⟨u,rfl,rx⟩:=zeO r
 cases rx
 have hn:=zhk
 rcases hq with hq | hq
 ·obtain ⟨its,r',pl,hz⟩:=I.list hq
  have hlen:=r'.length
  exact Calls.call_len_list pl.isList (by simp only [qaA]<;>omega) ⟨.int ys.length,H,I.tok _,⟨s.toks+1,by rw [qaA,hlen]⟩,q⟩
 ·obtain ⟨its,r',pl,hz⟩:=I.tuple hq
  have hlen:=r'.length
  exact len_tuple pl (by simp only [qaA]<;>omega) ⟨.int ys.length,H,I.tok _,⟨s.toks+1,by rw [qaA,hlen]⟩,q⟩
theorem za0.or {f:Value} {r r':List V->Hp->VK->Prop} (h:za0 X f r) (h':za0 X f r'):za0 X f (fun xs H Q=>r xs H Q\/r' xs H Q):=by
 intro pins s σ H xs us Q I rs q
 rcases q with q | q
 ·exact h pins s σ H xs us Q I rs q
 ·exact h' pins s σ H xs us Q I rs q
theorem zeX:za0 X (.type "list") (fun xs H Q=> ∃ p ys,xs=[.ref p]/\(SqL X.K H p ys\/SqT X.K H p ys)/\ ∀ l,H l=none->Q (.ref l) (upd H l (.lst ys))):=by
 intro pins s σ H xs us Q I r h
 obtain ⟨p,ys,rfl,hq,q⟩:=h
 obtain ⟨u,rfl,rx⟩:=zeO r
 cases rx
 have fin: ∀ (its:List Value),za7 ys its->ys.length<=sizeLine-> ∀ (h':Heap) (c':Nat),(∀ b o',s.heap.get? b=some o'->h'.get? b=some o')->
   h'.get? s.heap.objs.size=some {cls:= .type "list",dict:=none,data:= .seq its.toArray c',slots:= #[]}->EP X pins σ Q (.ref s.heap.objs.size) {s with heap:=h'}:=fun its r' hz h' c' kp e=>
  ⟨.ref s.heap.objs.size,_,I.laid (t':=s.toks) kp (qaV _) (show zbU X.prog X.w _ h' _ (.lst ys) from ⟨hz,its,c',r',e⟩),rfl,q _ (I.hok.fresh (qaV _))⟩
 rcases hq with hq | hq
 ·obtain ⟨its,r',pl,hz⟩:=I.list hq
  have hlen:=r'.length
  obtain ⟨o,ho,hc,n,hd⟩:=pl.isList
  exact call_list_seq p (.inl rfl) ho hc hd (fun h' c' kp e=>fin its r' hz h' c' kp e) (by simp only [qaA]<;>omega)
 ·obtain ⟨its,r',pl,hz⟩:=I.tuple hq
  have hlen:=r'.length
  obtain ⟨o,ho,hc,n,hd⟩:=pl
  exact call_list_seq p (.inr rfl) ho hc hd (fun h' c' kp e=>fin its r' hz h' c' kp e) (by simp only [qaA]<;>omega)
theorem zgY:za0 X (.type "tuple") (fun xs H Q=> ∃ p ys,xs=[.ref p]/\((SqL X.K H p ys/\ ∀ l,H l=none->Q (.ref l) (upd H l (.tup ys)))\/(SqT X.K H p ys/\Q (.ref p) H))):=by
 intro pins s σ H xs us Q I r h
 obtain ⟨p,ys,rfl,h⟩:=h
 obtain ⟨u,rfl,rx⟩:=zeO r
 cases rx
 rcases h with ⟨hq,q⟩ | ⟨hq,q⟩
 ·obtain ⟨its,r',pl,hz⟩:=I.list hq
  have hlen:=r'.length
  refine call_tuple_list pl.isList (fun h' kp=> ?_) (by simp only [qaA]<;>omega)
  have I1:Inv X pins σ H {s with heap:=h'}:=I.kept (t':=s.toks) kp
  have I2:Inv X pins σ (upd H h'.objs.size (.tup ys)) {s with heap:=h'.push {cls:= .type "tuple",data:= .seq its.toArray}}:=
   I1.laid (t':=s.toks) (fun b o e=>qag _ e) (qaV _) (show zbU X.prog X.w _ _ _ (.tup ys) from ⟨hz,its,r',IsTup.new _ _⟩)
  exact ⟨.ref h'.objs.size,_,I2,rfl,q _ (I1.hok.fresh (qaV _))⟩
 ·obtain ⟨its,r',pl,hz⟩:=I.tuple hq
  exact call_tuple_same pl ⟨.ref p,H,I,rfl,q⟩
def tyV (K:W.Frag) (T:String) (x:V) (H:Hp):Prop:=match x with
 | .str _=>T="str"
 | .int _=>T="int"
 | .ref p=>(T="list"/\ ∃ xs,SqL K H p xs)\/(T="tuple"/\ ∃ o,K.lookup p=some o/\o.cls= .type "tuple"/\o.dict=none)\/
   (T="dict"/\((∃ kvs,H p=some (.dK kvs))\/ ∃ kvs,H p=some (.dT kvs)))\/(T="set"/\ ∃ S n,H p=some (.set S n))
 | _=>False
theorem zrt {pins:List (Addr×Obj)} {σ:St} {H:Hp} {s:Shared} {T:String} {x:V} {v:Value} (I:Inv X pins σ H s) (r:zb5 x v) (ty:tyV X.K T x H):
  s.TypeIs v T/\ ∀ a,v= .ref a-> ∃ ob,s.heap.get? a=some ob/\ob.dict=none:=by
 cases x with
 | str z=>
  obtain ⟨t,rfl⟩:=r
  cases (show T="str" from ty)
  exact ⟨typeIs_str s z t,fun _ e=>nomatch e⟩
 | int i=>
  obtain ⟨t,rfl⟩:=r
  cases (show T="int" from ty)
  exact ⟨typeIs_int s i t,fun _ e=>nomatch e⟩
 | ref p=>
  cases r
  rcases ty with ⟨rfl,xs,hq⟩ | ⟨rfl,o,hk,hc,hd⟩ | ⟨rfl,hk⟩ | ⟨rfl,S,n,hk⟩
  ·obtain ⟨its,_,pl,_⟩:=I.list hq
   refine ⟨pl.isList.typeIs,fun a e=> ?_⟩
   cases e
   obtain ⟨o,n,e,c,hd,_⟩:=pl
   exact ⟨o,e,hd⟩
  ·refine ⟨⟨o,I.kIn p o hk,hc⟩,fun a e=> ?_⟩
   cases e
   exact ⟨o,I.kIn _ o hk,hd⟩
  ·have z: ∃ o,s.heap.get? p=some o/\o.ExactDict:=by
    rcases hk with ⟨kvs,hk⟩ | ⟨kvs,hk⟩
    ·obtain ⟨_,_,_,_,o,_,_,e,ex,_⟩:=I.hok p _ hk
     exact ⟨o,e,ex⟩
    ·obtain ⟨_,_,_,_,o,_,_,e,ex,_⟩:=I.hok p _ hk
     exact ⟨o,e,ex⟩
   obtain ⟨o,e,ex⟩:=z
   refine ⟨⟨o,e,ex.1⟩,fun a e2=> ?_⟩
   cases e2
   exact ⟨o,e,ex.2.1⟩
  ·obtain ⟨o,_,_,_,e,ex,_⟩:=I.hok p _ hk
   refine ⟨⟨o,e,ex.1⟩,fun a e2=> ?_⟩
   cases e2
   exact ⟨o,e,ex.2.1⟩
 | _=>exact qa0 ty
noncomputable def tBM (K:W.Frag) (T:String) (r:V->List V->Hp->VK->Prop) (to:TE) (t:TA):TE:=fun σ H Q=>to σ H fun x H1=>tyV K T x H1/\t σ H1 fun xs H2=>r x xs H2 Q
variable {o e:Expr} {es:List Expr} {to:TE} {t:TA} {name:Str} {apos cpos:Pos} {T id:String} {r:V->List V->Hp->VK->Prop}
theorem zpQ (pa:PlainAttrs T) (slot:Slot T name id) (hty:typeOf (.builtin id)=pure (.type "method_descriptor")) (hm:MtR X id r) (ho:PE X o to) (ha:PA X (e::es) t)
  (hbase:attributeBase o name X.env (eval o X.env)=eval o X.env:=by rfl)
  (hfew:((backTo cpos (starEach (e::es) X.env)).all (fun x=> !x.1) && (backToKw cpos (keywordEach [] X.env)).all (fun x=>x.1.isSome)
    && decide ((e::es).length+([]:List Keyword).length+(if ([]:List Keyword).isEmpty then 0 else 1)<30))=true:=by rfl)
  (hline:(apos.endLine==cpos.line)=true:=by rfl) (hs:starEach (e::es) X.env=(false,eval e X.env)::starEach es X.env:=by rfl) (hplain:(backTo cpos (starEach es X.env)).any (·.1)=false:=by rfl):
  PE X (.Call (.Attribute o name apos) (e::es) [] cpos) (tBM X.K T r to t):=by
 intro pins s σ H Q I h
 refine wpAny_Call_method_late hbase hfew hline rfl (thn (ho pins s σ H _ I h) fun v s1 ⟨x,H1,I1,r1,ty,q1⟩=> ?_)
 obtain ⟨h1,h2⟩:=zrt I1 r1 ty
 refine ⟨T,id,pa,slot,hty,h1,h2,?_⟩
 have hA:=ha cpos pins s1 σ H1 _ I1 q1
 rw [hs] at hA ⊢
 refine Calls.callWith_builtin (by show (false || (backTo cpos (starEach es X.env)).any (·.1))=false;rw [hplain]<;>rfl) (Calls.evalArgs_plain ?_)
 exact thn hA fun us s2 ⟨vs,H2,I2,r2,q2⟩=>hm pins s2 σ H2 x vs v us Q I2 r1 r2 q2
end
def MtM (X:Cx) (id:String) (r:V->List V->Hp->VK->Prop):Prop:=
 ∀ (pins:List (Addr×Obj)) (s:Shared) (σ:St) (H:Hp) (x:V) (xs:List V) (v:Value) (us:List Value) (Q:VK),Inv X pins σ H s->zb5 x v->za7 xs us->r x xs H Q->
  wpAny (model X.prog X.w) X.A (call (.builtin id) (v::us)) (EP X pins σ Q) X.xe s
theorem za7.one: ∀ {x:V} {us:List Value},za7 [x] us-> ∃ u,us=[u]/\zb5 x u
 | _,_,.cons r .nil=>⟨_,rfl,r⟩
theorem za7.zero: ∀ {us:List Value},za7 [] us->us=[]
 | _,.nil=>rfl
theorem za7.eraseIdx: ∀ {xs:List V} {us:List Value} (i:Nat),za7 xs us->za7 (xs.eraseIdx i) (us.eraseIdx i)
 | _,_,_,.nil=> .nil
 | _,_,0,.cons _ t=>t
 | _,_,i+1,.cons r t=> .cons r (za7.eraseIdx i t)
theorem za7.reverse {xs:List V} {us:List Value} (h:za7 xs us):za7 xs.reverse us.reverse:=by
 induction h with
 | nil=>exact .nil
 | cons r t ih=>rw [List.reverse_cons,List.reverse_cons];exact za7.append ih (.cons r .nil)
theorem za7.rep {xs:List V} {us:List Value} (h:za7 xs us): ∀ k:Nat,za7 (List.replicate k xs).flatten (List.replicate k us).flatten
 | 0=> .nil
 | k+1=>by
  rw [List.replicate_succ,List.replicate_succ,List.flatten_cons,List.flatten_cons]
  exact za7.append h (za7.rep h k)
theorem zhS (its:List Value): ∀ (k:Nat) (acc:List Value),
  List.foldl (fun x1 x2=>x1++x2) acc.toArray (List.replicate k its.toArray)=(acc++(List.replicate k its).flatten).toArray
 | 0,acc=>by simp
 | k+1,acc=>by
  have e:acc.toArray++its.toArray=(acc++its).toArray:=by simp
  have e2:(acc++its)++(List.replicate k its).flatten=acc++(List.replicate (k+1) its).flatten:=by
   rw [List.replicate_succ,List.flatten_cons,List.append_assoc]
  rw [<- e2, <-zhS its k (acc++its), <-e,List.replicate_succ,List.foldl_cons]
section
variable {X:Cx} {pins:List (Addr×Obj)} {σ:St} {H:Hp} {s:Shared} {l b:Addr} {xs ys zs:List V}
theorem Inv.lset {its its':List Value} {n:Nat} {f:Array Value->Array Value} {t':Nat} (I:Inv X pins σ H s) (hH:H l=some (.lst xs))
  (e:s.heap.get? l=some {cls:= .type "list",data:= .seq its.toArray n}) (hf:f its.toArray=its'.toArray) (hv:za7 ys its') (hz:ys.length<=sizeLine):
  Inv X pins σ (upd H l (.lst ys)) {s with heap:=s.heap.update l (Obj.mapSeq f),toks:=t'}:=by
 have q:=PySem.IsL.update e f
 rw [hf] at q
 refine I.write (x:=l) (e:=l) (by rw [hH];exact trivial) (.inl rfl) (fun b' u hb hu=>(qah s.heap (Obj.mapSeq f) (Ne.symm hb)).trans hu) ⟨_,q⟩ ?_
 exact ⟨hz,its',_,hv,q⟩
theorem Inv.lnew {its:List Value} {t':Nat} (I:Inv X pins σ H s) (hv:za7 ys its) (hz:ys.length<=sizeLine):
  Inv X pins σ (upd H s.heap.objs.size (.lst ys)) {s with heap:=s.heap.push {cls:= .type "list",data:= .seq its.toArray},toks:=t'}:=
 I.laid (fun _ _ q=>qag _ q) (qaV _) ⟨hz,its,0,hv,qar _ rfl⟩
theorem Inv.fresh (I:Inv X pins σ H s):H s.heap.objs.size=none:=I.hok.fresh (qaV _)
theorem Inv.lstM (I:Inv X pins σ H s) (hH:H l=some (.lst xs)):xs.length<=sizeLine/\ ∃ (its:List Value) (n:Nat),za7 xs its/\xs.length=its.length/\s.heap.get? l=some {cls:= .type "list",data:= .seq its.toArray n}:=by
 obtain ⟨z,its,n,r,e⟩:=I.hok l _ hH
 exact ⟨z,its,n,r,r.length,e⟩
theorem znn {n:Nat} (h:n<=sizeLine):Builtin.List.listTooLong n=false:=by
 unfold Builtin.List.listTooLong
 exact decide_eq_false (by omega)
end
section
variable {X:Cx}
noncomputable def zpp:V->List V->Hp->VK->Prop:=fun x vs H Q=> ∃ l xs y,x= .ref l/\vs=[y]/\H l=some (.lst xs)/\xs.length<sizeLine/\Q .non (upd H l (.lst (xs++[y])))
theorem zh2:MtM X "list.append" zpp:=by
 intro pins s σ H x vs v us Q I rx rv h
 obtain ⟨l,xs,y,rfl,rfl,hH,hz,q⟩:=h
 cases rx
 obtain ⟨u,rfl,ru⟩:=rv.one
 obtain ⟨z,its,n,r,hl,e⟩:=I.lstM hH
 refine call_meets F.slot_list_append ⟨_,e,rfl⟩ F.entry_list_append (F.args_list_append_2 _ _) (PySem.list_append l its.toArray n u (by rw [qaA];omega)) ⟨e,?_⟩
 refine ⟨.non,_,I.lset (its':=its++[u]) hH e (by simp) (r.append (.cons ru .nil)) ?_,rfl,q⟩
 rw [qav,List.length_singleton]
 omega
noncomputable def zuI:R2:=fun x y H Q=> ∃ l b xs zs,x= .ref l/\y= .ref b/\H l=some (.lst xs)/\H b=some (.lst zs)/\xs.length+zs.length<=sizeLine/\ ∀ p,H p=none->Q (.ref p) (upd H p (.lst (xs++zs)))
theorem zsr:OpR X (binaryOp .Add) zuI:=by
 intro pins s σ H x y v u Q I rx ry h
 obtain ⟨l,b,xs,zs,rfl,rfl,hH,hB,hz,q⟩:=h
 cases rx
 cases ry
 obtain ⟨z,its,n,r,hl,e⟩:=I.lstM hH
 obtain ⟨z2,its2,n2,r2,hl2,e2⟩:=I.lstM hB
 refine PySem.P.add_list e e2 ?_ (by rw [qaA,qaA];omega)
 have ea:its.toArray++its2.toArray=(its++its2).toArray:=by simp
 rw [ea]
 exact ⟨.ref _,_,I.lnew (t':=s.toks) (r.append r2) (by rw [qav];omega),rfl,q _ I.fresh⟩
theorem zpe {α:Type} (xs:List α) (k:Nat):(List.replicate k xs).flatten.length=k*xs.length:=by
 induction k with
 | zero=>simp
 | succ k ih=>rw [List.replicate_succ,List.flatten_cons,qav,ih,Nat.succ_mul,Nat.add_comm]
end
section
variable {prog:Program} {w:World} {A:Around} {E:Value->Shared->Prop} {s:Shared}
end
section
variable {X:Cx}
end
end L2
namespace Att
open PySem PySem.W PySem.Calls PyProof.Rows
theorem zfl {P:Params} {h:Heap}: ∀ (ns:List Int) (vs:List Value),WellAll P h vs (ns.map WData.int)->IntsAre vs ns:=by
 intro ns
 induction ns with
 | nil=>
  intro vs w
  rw [List.map_nil] at w
  cases w
  exact .nil
 | cons n ns ih=>
  intro vs w
  rw [qaM] at w
  cases w with
  | cons a b=>
   cases a
   exact .cons _ _ (ih _ b)
theorem zl1 {l:OpenLaw} {n:Nat} (hn:l.most=some n) {P:Params} {h:Heap} {args:List WData} {vals:List Value}
  (hpre:l.row.toRowW.claim.pre args=true) (hwl:WellAll P h vals args):
  ∃ a vs ns,vals=[Value.ref a]/\args=[WData.list (ns.map WData.int)]/\h.get? a=some {cls:= .type "list",data:= .seq vs.toArray}/\IntsAre vs ns/\ns.length<=n:=by
 have hsh:WShape.hasAll [] args [.list .int]=true:=(pre_splitW hpre).1
 have hc:l.pre.holds [] {args:=args}=true:=(pre_splitW hpre).2
 obtain ⟨d,r,rfl,h1,h2⟩:=hasAllW_cons hsh
 obtain rfl:=hasAllW_nil h2
 obtain ⟨xs,rfl,h3⟩:=hasW_list h1
 obtain ⟨ns,rfl⟩:=items_int h3
 have hlen:ns.length<=n:=by
  unfold OpenLaw.pre at hc
  have h4:(WTm.not (.lt (.lit (.int (n:Int))) (.len (.arg 0)))).holds [] {args:=[.list (ns.map .int)]}=true:=by
   have h4:=(holds_andW hc).1
   rw [hn] at h4
   exact h4
  have h5:=condW_of h4 (w_not (w_lt w_lit (w_len_list (w_arg rfl))))
  rw [qaH] at h5
  refine Nat.le_of_not_lt fun q=> ?_
  have q':(n:Int)<((ns.length:Nat):Int):=by omega
  first
   | (rw [decide_eq_true q'] at h5;exact absurd h5 (by decide))
   | (simp at h5;omega)
 cases hwl with
 | cons w1 w2=>
  cases w2
  cases w1 with
  | list ho hall=>exact ⟨_,_,ns,rfl,rfl,ho,zfl ns _ hall,hlen⟩
theorem zlf (l:OpenLaw) (args:List WData):l.row.toRowW.claim.post args (.bool true) args=true:=
 postW_of (r:=l.row.toRowW) (X:=(true==true))
  (show WShape.has [] (.bool true) .bool=true by first | rfl | decide | simp [WShape.has,WShape.arms,WShape.armsAll])
  (show (WTm.eq .res (.lit (.bool true))).value [] {args:=args,res:=some (.bool true),after:=args}=some (.bool (true==true)) from w_eq_bool (w_res rfl) w_lit) rfl
section
variable {prog:Program} {w:World} {A:Around} {E:Value->Shared->Prop} {s:Shared} {K:Frag}
end
end Att
namespace L2
open PySem PySem.Spec PyProof.Rows
theorem zfN: ∀ {vs:List Value} {ns:List Int},IntsAre vs ns->za7 (ns.map V.int) vs
 | _,_,.nil=> .nil
 | _,_,.cons n t h=> .cons ⟨t,rfl⟩ (zfN h)
def zuv (H:Hp):Prop:= ∀ b,H b=none\/ ∃ o xs,H b=some (.frz o (.lst xs))
theorem zmQ {P:Program} {w:World} {K:W.Frag} {mg mb:Str->Option Value} {CX:CXT} {k:Nat} {fa a:Addr} {fd:FuncData} {x:Str} {sp:Sp} {s₁:Shared} {vs:List Value} {ns:List Int}
  (KX:K.In s₁.heap) (hns:s₁.heap.Ns mainGlobals mg) (hb:s₁.heap.Ns builtinsNs mb) (hbb: ∀ x:Str,x≠"__name__"->mb x=bootBuiltins x) (hlim:s₁.heap.NoLimit) (hg:s₁.gens= #[])
  (ha:s₁.heap.get? a=some {cls:= .type "list",data:= .seq vs.toArray}) (hi:IntsAre vs ns) (hl:ns.length<=sizeLine) (hr:zdV k callerA)
  (F: ∀ base:Heap,K.In base->base.Ns mainGlobals mg->zbq P w K mg base CX k fa fd [x] sp) (hbind: ∀ (s:Shared) (u:Value),BindsTo s fd ⟨[u],[]⟩ [(x,u)])
  (hsp: ∀ H:Hp,zuv H->SqL K H a (ns.map V.int)->sp [.ref a] H (fun v _=>v= .bl true) fun _ _ _=>False)
  (hCX: ∀ H e s',CX [] H s₁ (fun _ _ _=>False) e s'->False):
  codeAny (model P w) callerA (.call (.ref fa) ⟨[.ref a],[]⟩) (fun r s'=>r= .ok (.ret (.bool true))/\OldK s₁.heap s'.heap/\s'.os=s₁.os/\AllBare s'.gens) s₁:=by
 have rv:=zfN hi
 have lenV:=hi.length
 have core: ∀ H:Hp,zuv H->SqL K H a (ns.map V.int)->HOk P w H s₁.heap->(∀ b,H b≠none->b=a)->(H a≠none->K.lookup a=none)->
   codeAny (model P w) callerA (.call (.ref fa) ⟨[.ref a],[]⟩) (fun r s'=>r= .ok (.ret (.bool true))/\OldK s₁.heap s'.heap/\s'.os=s₁.os/\AllBare s'.gens) s₁:=by
  intro H hO hS hok hA hK
  have base_of: ∀ {b:Addr} {o:Obj},s₁.heap.get? b=some o->H b=none->(zny s₁.heap H).get? b=some o:=fun e n=>zm4 e n
  have noA: ∀ {b:Addr} {o:Obj} {es:Array DictEntry} {ep:Nat},s₁.heap.get? b=some o->o.data= .dict es ep->H b=none:=fun {b o es ep} e d=>by
   cases q:H b with
   | none=>rfl
   | some u=>
    have e':b=a:=hA b (by rw [q];simp)
    subst e'
    rw [ha] at e;cases e
    have d':Data.seq vs.toArray _=Data.dict es ep:=d
    cases d'
  have nsK: ∀ {b:Addr} {m:Str->Option Value},s₁.heap.Ns b m->(zny s₁.heap H).Ns b m:=fun {b m} ⟨o,es,ep,e,d,r⟩=>⟨o,es,ep,base_of e (noA e d),d,r⟩
  have hKb:K.In (zny s₁.heap H):=fun b o e=>base_of (KX b o e) (by
    cases q:H b with
    | none=>rfl
    | some u=>
      have e':b=a:=hA b (by rw [q];simp)
      subst e'
      rw [hK (by rw [q];simp)] at e;cases e)
  have hM:Mod K mg (zny s₁.heap H):=⟨hKb,nsK hns,⟨mb,nsK hb,hbb⟩,let ⟨mc,h1,h2⟩:=hlim;⟨mc,nsK h1,h2⟩⟩
  have e0:znA P w K mg (zny s₁.heap H) callerA [] s₁ H:=⟨rfl,hM,fun b o e=>zp5 e,Nat.le_of_eq (zkM _ _),trivial,fun b hb=>absurd (show b∈([]:List Addr) from hb) (by simp),hok,.of_eq hg,.inl rfl⟩
  refine codeAny_mono ((F _ hKb (nsK hns)).run callerA [] s₁ H ⟨[.ref a],[]⟩ [.ref a] [.ref a] _ _ hr e0 (hbind s₁ (.ref a)) (.cons rfl .nil) (hsp H hO hS)) fun r s' h=> ?_
  cases r with
  | error e=>exact (hCX H e s' h).elim
  | ok fl=>
   cases fl with
   | next=>exact qa0 h
   | brk=>exact qa0 h
   | cont=>exact qa0 h
   | ret u=>
    obtain ⟨v,H',os,bare,un,hok',r',q⟩:=h
    have q':v= .bl true:=q
    subst q'
    obtain rfl:u=Value.bool true:=r'
    refine ⟨rfl,OldK.of_keep fun b o e=> ?_,os,bare⟩
    cases q:H b with
    | none=>exact un.keep b o e q (by intro z;exact absurd (show b∈([]:List Addr) from z) (by simp)) (by simp)
    | some u=>
     rcases hO b with z | ⟨ob,xs,z⟩
     ·rw [q] at z;cases z
     ·have z2:=un.frzs b ob _ z
      obtain ⟨e1,_⟩:=hok b _ z
      obtain ⟨e2,_⟩:=hok' b _ z2
      rw [e] at e1;cases e1
      exact e2
 cases hk:K.lookup a with
 | some o=>
  have e:=KX a o hk
  rw [ha] at e
  cases e
  refine core (fun _=>none) (fun _=> .inl rfl) (.inr ⟨_,vs.toArray,_,hk,rfl,rfl,rfl,by rw [qaA,lenV];exact hl,by simpa using rv⟩) (fun b u z=>by have z':(none:Option HO)=some u:=z;cases z') (fun b z=>absurd rfl z) fun z=>absurd rfl z
 | none=>
  refine core (fun b=>if b=a then some (.frz {cls:= .type "list",data:= .seq vs.toArray} (.lst (ns.map V.int))) else none) (fun b=> ?_) (.inl (.inr ⟨{cls:= .type "list",data:= .seq vs.toArray},qa4 rfl⟩)) (fun b u z=> ?_) (fun b z=> ?_) fun _=>hk
  ·by_cases hb:b=a
   ·exact .inr ⟨_,_,qa4 hb⟩
   ·exact .inl (qa5 hb)
  ·by_cases hb:b=a
   ·have z':=(qa4 hb).symm.trans z
    cases z'
    subst hb
    exact ⟨ha,by rw [qaH];exact hl,vs,_,rv,ha⟩
   ·have z':=(qa5 hb).symm.trans z
    cases z'
  ·by_cases hb:b=a
   ·exact hb
   ·exact absurd (qa5 hb) z
noncomputable def zeG (s:Stmt):Arguments:=match s with
 | .FunctionDef _ a _ _ _ _ _ _ _ _=>a
 | _=>{posonlyargs:=[],args:=[],vararg:=none,kwonlyargs:=[],kw_defaults:=[],kwarg:=none,defaults:=[]}
noncomputable def zcM (s:Stmt):List Stmt:=match s with
 | .FunctionDef _ _ b _ _ _ _ _ _ _=>b
 | _=>[]
noncomputable def zae (s:Stmt):Scope:=match s with
 | .FunctionDef _ _ _ _ _ _ sc _ _ _=>sc
 | _=>{kind:= .function,names:=[],isGenerator:=false,isCoroutine:=false}
noncomputable abbrev CX0:CXT:=fun _ _ _ _ _ _=>False
noncomputable abbrev E0:XK:=fun _ _ _=>False
theorem zrF {X:Cx}:zdx CX0 X E0:=fun _ _ _ _ _ _ _ h=>h.elim
structure Fun (K:W.Frag) (x qual:Str) (st:Stmt) (f:Addr) (fd:FuncData):Prop where
 ex: ∃ (oc:Value) (od:Option Addr) (kV doc pm:Value) (an:Option Addr) (cdv ct:Value) (osl:Array (Option Value)),
  fd=W.fnOf x qual (zeG st) (zcM st) (zae st) .none kV doc pm an cdv ct/\K.lookup f=some ⟨oc,od,.func fd,osl⟩/\W.codeIn K cdv qual=true
 kp:W.keepIn K (.ref f)=true
section
variable {P:Program} {w:World} {K:W.Frag} {mg:Str->Option Value} {base:Heap}
theorem Fun.ok {x qual:Str} {st:Stmt} {f:Addr} {fd:FuncData} {N ps:List Str} {k:Nat} {sp:Sp} (F:Fun K x qual st f fd) (S:zal N ps (zae st)) (len: ∀ vs H Q E,sp vs H Q E->vs.length=ps.length)
  (hbody: ∀ (cdv:Value) (A:Around) (outer:List Env) (s:Shared) (H:Hp) (vs:List V) (Q:VK) (E:XK),zdV k (A.deeper (envOfC qual (zae st) s.heap.objs.size f cdv))->sp vs H Q E->
    ∃ t,PSs (zib CX0 P w K mg base N qual (zae st) f cdv A outer s H E).nox (zcM st) t/\t {nx:=fun _ H'=>Q .non H',rt:=Q} (zeV N vs) H):zbq P w K mg base CX0 (k+1) f fd ps sp:=by
 obtain ⟨oc,od,kV,doc,pm,an,cdv,ct,osl,rfl,lk,hcd⟩:=F.ex
 refine zqP lk hcd S len fun A outer s H vs Q E hr hsp=> ?_
 obtain ⟨t,h,q⟩:=hbody cdv A outer s H vs Q E hr hsp
 exact ⟨t,h.nox,q⟩
theorem Fun.binds {x qual:Str} {st:Stmt} {f:Addr} {fd:FuncData} {ps:List Str} (F:Fun K x qual st f fd)
  (h: ∀ (kV doc pm:Value) (an:Option Addr) (cdv ct:Value) (us:List Value),us.length=ps.length->bindArgs (W.fnOf x qual (zeG st) (zcM st) (zae st) .none kV doc pm an cdv ct) ⟨us,[]⟩=pure (ps.zip us)):zaJ K fd ps []:=by
 obtain ⟨oc,od,kV,doc,pm,an,cdv,ct,osl,rfl,lk,hcd⟩:=F.ex
 exact .all (h kV doc pm an cdv ct)
theorem zaC {x qual:Str} {st:Stmt} {f:Addr} {oc:Value} {od an:Option Addr} {osl:Array (Option Value)} {kV doc pm cdv ct:Value} (l:K.lookup f=some ⟨oc,od,.func (W.fnOf x qual (zeG st) (zcM st) (zae st) .none kV doc pm an cdv ct),osl⟩)
  (c:W.codeIn K cdv qual=true) (k:W.keepIn K (.ref f)=true):Fun K x qual st f (W.fnOf x qual (zeG st) (zcM st) (zae st) .none kV doc pm an cdv ct):=⟨⟨oc,od,kV,doc,pm,an,cdv,ct,osl,rfl,l,c⟩,k⟩
end
section
variable {X:Cx}
theorem pv (i:Nat) {x:Str} {pos:Pos} (hN:X.N[i]? = some x:=by rfl) (hv:Vis X.env.scope x:=by first | exact Or.inl rfl | exact Or.inr (Or.inl rfl) | exact Or.inr (Or.inr rfl)) (hd:(x==("__debug__":Str))=false:=by decide)
  (hcd:(x==("__classdict__":Str))=false:=by decide):PE X (.Name x pos) (zuw i):=zn1 hN hv hd hcd
end
theorem zpM {A B:Prop} (h:B):if false=true then A else B:=by
 rw [qa5 Bool.false_ne_true]
 exact h
theorem zpd {A B:Prop} (h:A):if true=true then A else B:=by
 rw [qa4 rfl]
 exact h
def zmp (H H':Hp):Prop:= ∀ b o,H b=some o->H' b=some o
theorem zmp.refl (H:Hp):zmp H H:=fun _ _ h=>h
theorem zmp.trans {H H1 H2:Hp} (a:zmp H H1) (b:zmp H1 H2):zmp H H2:=fun c o h=>b c o (a c o h)
theorem zmp.free {H H':Hp} (e:zmp H H') {l:Addr} (h:H' l=Option.none):H l=Option.none:=by
 cases q:H l with
 | none=>rfl
 | some o=>
  rw [e l o q] at h
  cases h
theorem zmp.seq {K:W.Frag} {H H':Hp} {a:Addr} {xs:List V} (e:zmp H H') (h:SqL K H a xs):SqL K H' a xs:=by
 rcases h with (h | ⟨o,h⟩) | h
 ·exact .inl (.inl (e _ _ h))
 ·exact .inl (.inr ⟨o,e _ _ h⟩)
 ·exact .inr h
noncomputable def zbI (cells:List (Str×Addr)):List (Str×NameKind)->List (Str×Addr)->List (Str×Addr)
 | [],acc=>acc
 | (n,k)::r,acc=>if k== .free then zbI cells r ((n,(cells.lookup n).getD 0)::acc) else zbI cells r acc
theorem zeu {scope:Scope} {env:Env} (h: ∀ x∈scope.names,x.2= .free-> ∃ c,env.cells.lookup x.1=some c):closureFor scope env=pure (zbI env.cells scope.names []):=by
 simp only [closureFor]
 generalize hn:scope.names=names at h
 clear hn
 generalize hacc:([]:List (Str×Addr))=acc
 clear hacc
 have key: ∀ (names:List (Str×NameKind)) (acc:List (Str×Addr)),(∀ x∈names,x.2= .free-> ∃ c,env.cells.lookup x.1=some c)->
   (forIn (m:=Sem) names acc fun (x:Str×NameKind) (r:List (Str×Addr))=>(match x with
     | (name,kind)=>if (kind==NameKind.free)=true then do
         let a<-cellOf env name
         pure (ForInStep.yield ((name,a)::r))
       else pure (ForInStep.yield r)))=pure (zbI env.cells names acc):=by
  intro names
  induction names with
  | nil=>intro acc _;rfl
  | cons x r ih=>
   intro acc h
   obtain ⟨n,k⟩:=x
   rw [List.forIn_cons]
   unfold zbI
   by_cases hk:(k==NameKind.free)=true
   ·simp only [hk,if_true]
    obtain ⟨c,hc⟩:=h (n,k) qau (by simpa using hk)
    have e:cellOf env n=pure c:=by unfold cellOf;rw [show env.cells.lookup n=some c from hc]
    rw [e,show (env.cells.lookup n).getD 0=c by rw [show env.cells.lookup n=some c from hc];rfl]
    exact ih _ fun y hy=>h y (qan _ hy)
   ·simp only [hk,if_false]
    exact ih _ fun y hy=>h y (qan _ hy)
 have k:=key names acc h
 refine Eq.trans (congrArg (fun (z:Sem (List (Str×Addr)))=>z>>=fun r=>pure r) k) ?_
 rfl
theorem zeK {cells:List (Str×Addr)}: ∀ {names:List (Str×NameKind)} {acc:List (Str×Addr)} {n:Str} {c:Addr},(n,c)∈zbI cells names acc->
  (n,c)∈acc\/((n,NameKind.free)∈names/\c=(cells.lookup n).getD 0)
 | [],_,_,_,h=> .inl h
 | (y,k)::r,acc,n,c,h=>by
  unfold zbI at h
  by_cases hk:(k==NameKind.free)=true
  ·rw [qa4 hk] at h
   have ek:k= .free:=by simpa using hk
   subst ek
   rcases zeK h with h | ⟨h1,h2⟩
   ·rcases qaP.mp h with e | h
    ·cases e
     exact .inr ⟨qau,rfl⟩
    ·exact .inl h
   ·exact .inr ⟨qan _ h1,h2⟩
  ·rw [qa5 hk] at h
   rcases zeK h with h | ⟨h1,h2⟩
   ·exact .inl h
   ·exact .inr ⟨qan _ h1,h2⟩
theorem zd4 {cells:List (Str×Addr)} {x:Str} {c:Addr} (hc:cells.lookup x=some c): ∀ (names:List (Str×NameKind)) (acc:List (Str×Addr)),((x,NameKind.free)∈names\/acc.lookup x=some c)->(zbI cells names acc).lookup x=some c
 | [],acc,h=>h.elim (fun z=>nomatch z) id
 | (y,k)::r,acc,h=>by
  unfold zbI
  by_cases hk:(k==NameKind.free)=true
  ·rw [qa4 hk]
   refine zd4 hc r _ ?_
   by_cases hy:x=y
   ·subst hy
    exact .inr (by rw [List.lookup_cons,beq_self_eq_true,hc];rfl)
   ·rcases h with h | h
    ·rcases qaP.mp h with e | h
     ·cases e;exact absurd rfl hy
     ·exact .inl h
    ·refine .inr ?_
     rw [List.lookup_cons,show (x==y)=false by simpa using hy]
     exact h
  ·rw [qa5 hk]
   refine zd4 hc r _ ?_
   rcases h with h | h
   ·rcases qaP.mp h with e | h
    ·cases e;exact absurd rfl hk
    ·exact .inl h
   ·exact .inr h
theorem zc8: ∀ {names:List (Str×NameKind)} {n:Nat} {acc:List (Str×Addr)} {x:Str} {c:Addr},(x,c)∈cellsFrom n names acc->(x,c)∈acc\/(n<=c/\(x,NameKind.cell)∈names)
 | [],_,_,_,_,h=> .inl h
 | (y,k)::r,n,acc,x,c,h=>by
  unfold cellsFrom at h
  by_cases hk:(k==NameKind.cell)=true
  ·rw [qa4 hk] at h
   have ek:k= .cell:=by simpa using hk
   subst ek
   rcases zc8 h with h | ⟨h,h'⟩
   ·rcases qaP.mp h with e | h
    ·cases e;exact .inr ⟨qaV _,qau⟩
    ·exact .inl h
   ·exact .inr ⟨Nat.le_of_succ_le h,qan _ h'⟩
  ·rw [qa5 hk] at h
   rcases zc8 h with h | ⟨h,h'⟩
   ·exact .inl h
   ·exact .inr ⟨h,qan _ h'⟩
theorem zcq {x:Str} {c:Addr}: ∀ (names:List (Str×NameKind)) (n:Nat) (acc:List (Str×Addr)),(x,NameKind.cell)∉names->acc.lookup x=some c->(cellsFrom n names acc).lookup x=some c
 | [],_,_,_,h=>h
 | (y,k)::r,n,acc,hn,h=>by
  unfold cellsFrom
  by_cases hk:(k==NameKind.cell)=true
  ·rw [qa4 hk]
   have ek:k= .cell:=by simpa using hk
   subst ek
   refine zcq r _ _ (fun z=>hn (qan _ z)) ?_
   have hy:x≠y:=fun e=>hn (by rw [e];exact qau)
   rw [List.lookup_cons,show (x==y)=false by simpa using hy]
   exact h
  ·rw [qa5 hk]
   exact zcq r _ _ (fun z=>hn (qan _ z)) h
theorem zcl: ∀ (names:List (Str×NameKind)) (n:Nat) (acc:List (Str×Addr)),(∀ x c,(x,c)∈acc->c<n)->(acc.Pairwise fun x y=>x.2≠y.2)->(cellsFrom n names acc).Pairwise fun x y=>x.2≠y.2
 | [],_,_,_,h=>h
 | (y,k)::r,n,acc,hlt,h=>by
  unfold cellsFrom
  by_cases hk:(k==NameKind.cell)=true
  ·rw [qa4 hk]
   refine zcl r (n+1) _ (fun x c hm=> ?_) (qay.mpr ⟨fun z hz e=> ?_,h⟩)
   ·rcases qaP.mp hm with e | hm
    ·cases e;exact Nat.lt_succ_self _
    ·exact Nat.lt_succ_of_lt (hlt x c hm)
   ·have:=hlt z.1 z.2 hz
    have e':n=z.2:=e
    exact qaN _ (e'▸this)
  ·rw [qa5 hk]
   exact zcl r n acc hlt h
noncomputable def zpi (env:Env) (scope:Scope) (C:Addr):Env:=
 {scope:=relabel scope env,locals:=C,globals:=env.globals,cells:=cellsFrom (C+1) scope.names (zbI env.cells scope.names []),qual:=env.qual,func:=none,code:=env.code,frame:=env.frame,builtins:=env.builtins}
section
variable {M:Model} {A:Around} {E:Value->Shared->Prop} {s:Shared}
theorem zf7 {scope:Scope} {env:Env} {cl:List (Str×Addr)} {Q:Env->Shared->Prop}
  (hQ: ∀ h',(∀ b o,s.heap.get? b=some o->h'.get? b=some o)->h'.Ns s.heap.objs.size (fun _=>none)->(∀ x c,(x,NameKind.cell)∈scope.names->(x,c)∈cellsFrom (s.heap.objs.size+1) scope.names cl->(x,c)∉cl->h'.IsCell c none)->
    Q {scope,locals:=s.heap.objs.size,globals:=env.globals,cells:=cellsFrom (s.heap.objs.size+1) scope.names cl,qual:=env.qual,func:=none,code:=env.code,frame:=env.frame,builtins:=env.builtins} {s with heap:=h'}):
  wpAny M A (newFunctionEnv scope env.globals cl [] env.qual none .none (some env)) Q E s:=by
 simp only [newFunctionEnv,Option.isSome_some,if_true]
 refine qaW (wpAny_alloc ?_)
 refine qaW (wpAny_layCells _ (fun name kind cells=>by cases hkc:kind==NameKind.cell<;>simp [hkc]) _ _ _ _ ?_)
 simp only [List.forIn_nil]
 refine qaW (qaX (qaX ?_))
 rw [show ({s with heap:=s.heap.push {cls:= .type "dict",data:= .dict #[]}}:Shared).heap.objs.size=s.heap.objs.size+1 from qaL ..]
 have key: ∀ (names:List (Str×NameKind)) (h:Heap) (acc:List (Str×Addr)) (x:Str) (c:Addr),(x,c)∈cellsFrom h.objs.size names acc->(x,c)∉acc->(pushCells h names).IsCell c none:=by
  intro names
  induction names with
  | nil=>intro h acc x c hm hn;exact absurd hm hn
  | cons y r ih=>
   intro h acc x c hm hn
   obtain ⟨n,k⟩:=y
   unfold cellsFrom at hm
   unfold pushCells
   by_cases hk:(k==NameKind.cell)=true
   ·rw [qa4 hk] at hm ⊢
    by_cases hin:(x,c)∈((n,h.objs.size)::acc)
    ·rcases qaP.mp hin with e | e
     ·cases e
      exact ⟨_,pushCells_keeps _ _ _ _ (qar _ rfl),rfl⟩
     ·exact absurd e hn
    ·refine ih (h.push {cls:= .type "cell",data:= .cell none}) ((n,h.objs.size)::acc) x c ?_ hin
     rw [qaL]
     exact hm
   ·rw [qa5 hk] at hm ⊢
    exact ih h acc x c hm hn
 refine hQ _ (fun b o e=>pushCells_keeps _ _ b o (qag _ e)) ((Heap.Ns.new s.heap (.type "dict")).keeps (pushCells_keeps _ _)) fun x c _ hm hn=> ?_
 refine key scope.names _ cl x c ?_ hn
 rw [qaL]
 exact hm
end
section
variable {prog:Program} {w:World} {A:Around} {E:Value->Shared->Prop} {R:Result->Shared->Prop} {s:Shared}
theorem zhy {elt target iter:Expr} {ifs:List Expr} {scope:Scope} {pos:Pos} {it acc:Value} {env:Env} (I:Nat->Shared->Prop)
  (turn: ∀ n s,I n s->wpAny (model prog w) A (pyNext it) (fun r s₁=>match r with
    | none=>R (.ok .next) s₁
    | some v=>wpAny (model prog w) A (letOwnedTupleGo target it v) (fun _ s₁'=>wpAny (model prog w) A (assign target env v) (fun _ s₂=>
        wpAny (model prog w) A (forIn ifs true fun c r=>if r=true then do let ok<-isTrue c env (eval c env);pure (ForInStep.yield ok) else pure (ForInStep.yield r)) (fun ok s₃=>
          if ok=true then wpAny (model prog w) A (eval elt env) (fun x s₄=>
            wpAny (model prog w) A (call (.builtin "list.append") [acc,x]) (fun _ s₅=> ∃ m,m<n/\I m s₅) (fun _ _=>False) s₄) (fun _ _=>False) s₃
          else ∃ m,m<n/\I m s₃) (fun _ _=>False) s₂) (fun _ _=>False) s₁') (fun _ _=>False) s₁) (fun _ _=>False) s)
  (n:Nat) (h:I n s):
  codeAny (model prog w) A (.compLoop (.ListComp elt [⟨target,iter,ifs,0⟩] scope pos) 0 it acc env) R s:=by
 refine codeAny_loop rfl I (fun n s hI=> ?_) n h
 show wpAny _ A ((compTurn (.ListComp elt [⟨target,iter,ifs,0⟩] scope pos) 0 it acc env).onRaise (fun x=>do noteFrame x env;theTreesLotGoes x)) _ _ s
 refine wpAny_noted ?_
 rw [compTurn_list]
 refine qaW (wpAny_standAt (qaW (qaZ (turn n s hI) (fun r s₁ h₁=> ?_) fun _ _ h'=>h'.elim)))
 cases r with
 | none=>exact qaX h₁
 | some v=>
  refine qaW (qaZ h₁ (fun _ s₁' h₁'=> ?_) fun _ _ h'=>h'.elim)
  refine qaW (qaZ h₁' (fun _ s₂ h₂=>qaW (qaZ h₂ (fun ok s₃ h₃=> ?_) fun _ _ h'=>h'.elim)) fun _ _ h'=>h'.elim)
  cases ok with
  | false=>exact qaX ⟨rfl,h₃⟩
  | true=>
   exact qaW (qaW (qaZ h₃ (fun x s₄ h₄=>qaW (qaZ h₄ (fun _ s₅ h₅=>qaX (qaX ⟨rfl,h₅⟩)) fun _ _ h'=>h'.elim)) fun _ _ h'=>h'.elim))
end
noncomputable abbrev cxB (X:Cx) (scope:Scope) (N:List Str) (s:Shared) (H:Hp) (fp:List Addr):Cx:=
 {prog:=X.prog,w:=X.w,K:=X.K,mg:=X.mg,base:=X.base,A:=X.A,N:=N,s₀:=s,H₀:=H,env:=zpi X.env scope s.heap.objs.size,outer:=X.stack,stack:=X.stack,ex:=fp,
   fn:=fun x=>scope.names.lookup x==some .cell,calm:=X.calm,pn:=[],xe:=fun _ _=>False}
noncomputable def zot (Xn:List (Str×NameKind)) (XN:List Str) (names:List (Str×NameKind)) (N:List Str) (src:List (Option Nat)):Bool:=
 decide N.Nodup && decide (names.map (·.1)).Nodup && (src.length==N.length) &&
 names.all (fun x=>x.2 != .local || names.lookup x.1==some .local) &&
 names.all (fun x=>x.2 != .cell || names.lookup x.1==some .cell) &&
 names.all (fun x=>x.2 != .free || Xn.lookup x.1==some .cell || Xn.lookup x.1==some .free) &&
 (N.zip src).all (fun p=>match p.2 with
   | none=>true
   | some i=>XN[i]? == some p.1 && names.lookup p.1==some .free)
structure BOk (X:Cx) (scope:Scope) (N:List Str) (src:List (Option Nat)):Prop where
 kind:scope.kind= .function
 nd:N.Nodup
 keys:(scope.names.map (·.1)).Nodup
 len:src.length=N.length
 locs: ∀ x∈scope.names,x.2= .local->scope.names.lookup x.1=some .local
 cels: ∀ x∈scope.names,x.2= .cell->scope.names.lookup x.1=some .cell
 free: ∀ x∈scope.names,x.2= .free->X.env.kindOf x.1=some .cell\/X.env.kindOf x.1=some .free
 src: ∀ (k i:Nat) (x:Str),src[k]? = some (some i)->N[k]? = some x->X.N[i]? = some x/\scope.names.lookup x=some .free
theorem BOk.of {X:Cx} {scope:Scope} {N:List Str} {src:List (Option Nat)} {Xn:List (Str×NameKind)} {XN:List Str} (hk:scope.kind= .function) (hX:X.env.scope.names=Xn) (hN:X.N=XN)
  (h:zot Xn XN scope.names N src=true):BOk X scope N src:=by
 unfold zot at h
 simp only [qaG,qaD,List.all_eq_true,beq_iff_eq] at h
 obtain ⟨⟨⟨⟨⟨⟨h1,h2⟩,h3⟩,h4⟩,h4'⟩,h5⟩,h6⟩:=h
 refine ⟨hk,h1,h2,h3,fun x hx e=> ?_,fun x hx e=> ?_,fun x hx e=> ?_,fun k i x e1 e2=> ?_⟩
 ·have:=h4 x hx
  rw [e] at this
  simpa using this
 ·have:=h4' x hx
  rw [e] at this
  simpa using this
 ·have:=h5 x hx
  rw [e] at this
  unfold Env.kindOf
  rw [hX]
  simpa using this
 ·have hm:(x,some i)∈N.zip src:=by
   refine List.mem_iff_getElem?.mpr ⟨k,?_⟩
   rw [List.getElem?_zip_eq_some]
   exact ⟨e2,e1⟩
  have:=h6 _ hm
  dsimp only at this
  simp only [qaG,beq_iff_eq] at this
  rw [hN]
  exact this
noncomputable def bStart (src:List (Option Nat)) (σ:St):St:=src.map fun o=>o.bind fun i=>(σ[i]?).join
theorem zf8 {scope:Scope} {env:Env} {x:Str}:(relabel scope env).names.lookup x=(scope.names.lookup x).map fun k=>if (k== .free && env.scope.kind== .function && env.kindOf x==some .cell) then .cell else k:=by
 show List.lookup x (scope.names.map _)=_
 induction scope.names with
 | nil=>rfl
 | cons y r ih=>
  obtain ⟨n,k⟩:=y
  rw [qaM]
  dsimp only
  by_cases hx:x=n
  ·subst hx
   by_cases hc:(k==NameKind.free && env.scope.kind== .function && env.kindOf x==some .cell)=true
   ·rw [qa4 hc,List.lookup_cons,List.lookup_cons,beq_self_eq_true]
    dsimp only [Option.map]
    rw [qa4 hc]
   ·rw [qa5 hc,List.lookup_cons,List.lookup_cons,beq_self_eq_true]
    dsimp only [Option.map]
    rw [qa5 hc]
  ·have hb:(x==n)=false:=by simpa using hx
   by_cases hc:(k==NameKind.free && env.scope.kind== .function && env.kindOf n==some .cell)=true
   ·rw [qa4 hc,List.lookup_cons,List.lookup_cons,hb]
    exact ih
   ·rw [qa5 hc,List.lookup_cons,List.lookup_cons,hb]
    exact ih
section
variable {X:Cx} {pins:List (Addr×Obj)} {σ:St} {H:Hp} {s:Shared} {scope:Scope} {N:List Str} {src:List (Option Nat)} {fp:List Addr}
theorem zpL (I:Inv X pins σ H s) (B:BOk X scope N src) {x:Str} {c:Addr} (h:(x,c)∈zbI X.env.cells scope.names []):X.env.cells.lookup x=some c/\(x,NameKind.free)∈scope.names:=by
 rcases zeK h with z | ⟨z,e⟩
 ·exact nomatch z
 ·obtain ⟨c',hc⟩:=I.ok.has x (B.free _ z rfl)
  rw [hc] at e
  exact ⟨by rw [hc,e];rfl,z⟩
theorem zh7 {l:List (Str×NameKind)} (h:(l.map (·.1)).Nodup) {x:Str} {j k:NameKind} (a:(x,j)∈l) (b:(x,k)∈l):j=k:=by
 induction l with
 | nil=>exact nomatch a
 | cons y r ih=>
  obtain ⟨h1,h2⟩:=List.nodup_cons.mp (show (y.1::r.map (·.1)).Nodup from h)
  rcases qaP.mp a with e | a<;>rcases qaP.mp b with e' | b
  ·rw [<- e] at e';cases e';rfl
  ·exact absurd (qaU.mpr ⟨_,b,by rw [<- e]⟩) h1
  ·exact absurd (qaU.mpr ⟨_,a,by rw [<- e']⟩) h1
  ·exact ih h2 a b
theorem zeL (I:Inv X pins σ H s): ∀ (names:List (Str×NameKind)) (acc:List (Str×Addr)),(∀ x∈names,x.2= .free-> ∃ c,X.env.cells.lookup x.1=some c)->(names.map (·.1)).Nodup->(∀ x c,(x,c)∈acc->X.env.cells.lookup x=some c/\x∉names.map (·.1))->
  (acc.Pairwise fun x y=>x.2≠y.2)->(zbI X.env.cells names acc).Pairwise fun x y=>x.2≠y.2
 | [],_,_,_,_,h=>h
 | (n,k)::r,acc,hf,nd,ha,h=>by
  unfold zbI
  obtain ⟨h1,h2⟩:=List.nodup_cons.mp (show (n::r.map (·.1)).Nodup from nd)
  by_cases hk:(k==NameKind.free)=true
  ·rw [qa4 hk]
   obtain ⟨c,hc⟩:=hf (n,k) qau (by simpa using hk)
   have hc:X.env.cells.lookup n=some c:=hc
   rw [show (X.env.cells.lookup n).getD 0=c by rw [hc];rfl]
   refine zeL I r _ (fun x hx=>hf x (qan _ hx)) h2 (fun x c' hm=> ?_) (qay.mpr ⟨fun y hy e=> ?_,h⟩)
   ·rcases qaP.mp hm with e | hm
    ·cases e;exact ⟨hc,h1⟩
    ·exact ⟨(ha x c' hm).1,fun z=>(ha x c' hm).2 (qan _ z)⟩
   ·obtain ⟨q1,q2⟩:=ha y.1 y.2 hy
    have e':c=y.2:=e
    rw [<- e'] at q1
    have:=I.ok.inj _ _ _ hc q1
    exact q2 (by rw [<- this];exact qau)
  ·rw [qa5 hk]
   exact zeL I r acc (fun x hx=>hf x (qan _ hx)) h2 (fun x c' hm=>⟨(ha x c' hm).1,fun z=>(ha x c' hm).2 (qan _ z)⟩) h
theorem zk7 (I:Inv X pins σ H s) (B:BOk X scope N src) (hf: ∀ b∈fp,zia X pins H b) (hfo: ∀ b∈fp, ∃ o,s.heap.get? b=some o) {h':Heap} (hk: ∀ b o,s.heap.get? b=some o->h'.get? b=some o) (hns:h'.Ns s.heap.objs.size (fun _=>none))
  (hce: ∀ x c,(x,NameKind.cell)∈scope.names->(x,c)∈cellsFrom (s.heap.objs.size+1) scope.names (zbI X.env.cells scope.names [])->(x,c)∉zbI X.env.cells scope.names []->h'.IsCell c none):
  Inv (cxB X scope N s H fp) [] (bStart src σ) H {s with heap:=h'}:=by
 have cin: ∀ {x:Str} {c:Addr},(x,c)∈zbI X.env.cells scope.names []->X.env.cells.lookup x=some c/\(x,NameKind.free)∈scope.names:=fun h=>zpL I B h
 have old: ∀ {x:Str} {c:Addr},X.env.cells.lookup x=some c->c<s.heap.objs.size:=fun {x c} h=>(let ⟨_,q⟩:=I.cell x c h;q.lt)
 have all: ∀ {x:Str} {c:Addr},(x,c)∈cellsFrom (s.heap.objs.size+1) scope.names (zbI X.env.cells scope.names [])->(X.env.cells.lookup x=some c/\(x,NameKind.free)∈scope.names)\/(s.heap.objs.size<c/\(x,NameKind.cell)∈scope.names):=fun {x c} h=>by
  rcases zc8 h with z | ⟨z,z'⟩
  ·exact .inl (cin z)
  ·exact .inr ⟨z,z'⟩
 have lk: ∀ {x:Str} {c:Addr},(zpi X.env scope s.heap.objs.size).cells.lookup x=some c->(x,c)∈cellsFrom (s.heap.objs.size+1) scope.names (zbI X.env.cells scope.names []):=fun h=>PySem.mem_of_lookup h
 have hasF: ∀ x∈scope.names,x.2= .free-> ∃ c,X.env.cells.lookup x.1=some c:=fun x hx e=>I.ok.has x.1 (B.free x hx e)
 have ap:(cellsFrom (s.heap.objs.size+1) scope.names (zbI X.env.cells scope.names [])).Pairwise fun x y=>x.2≠y.2:=
  zcl _ _ _ (fun x c hm=>Nat.lt_succ_of_lt (old (cin hm).1)) (zeL I scope.names [] hasF B.keys (fun _ _ z=>nomatch z) .nil)
 have outer: ∀ {x:Str} {c:Addr},(x,NameKind.free)∈scope.names->X.env.cells.lookup x=some c->(zpi X.env scope s.heap.objs.size).cells.lookup x=some c:=fun {x c} h1 h2=>
  zcq _ _ _ (fun z=>nomatch zh7 B.keys h1 z) (zd4 h2 scope.names [] (.inl h1))
 have kinds: ∀ x,(zpi X.env scope s.heap.objs.size).kindOf x=(scope.names.lookup x).map fun k=>if (k== .free && X.env.scope.kind== .function && X.env.kindOf x==some .cell) then .cell else k:=fun x=>zf8
 have ckind: ∀ x,((zpi X.env scope s.heap.objs.size).kindOf x=some .cell\/(zpi X.env scope s.heap.objs.size).kindOf x=some .free)->scope.names.lookup x=some .cell\/scope.names.lookup x=some .free:=fun x h=>by
  rw [kinds x] at h
  cases e:scope.names.lookup x with
  | none=>rw [e] at h;simp at h
  | some k=>
   rw [e] at h
   cases k<;>simp at h ⊢
 refine ⟨⟨I.ok.mod,B.kind,I.ok.glob,I.ok.blt,qaV _,fun x y c h1 h2=>name_of_addr ap (lk h1) (lk h2),fun x hx=> ?_,fun x c hfn hx=> ?_,I.ok.hd,I.handA,I.ok.frames,.inl rfl,fun b hb=> ?_,I.bs,qaS I.ok.bsz I.sz,fun b o e hb=> ?_,fun b hb hb'=> ?_,I.stack,I.stkFree⟩,
   rfl,I.bare,Un.kept hk,⟨_,hns,fun i x v h1 h2 h3=> ?_⟩,fun x c h=> ?_,I.hok.fresh (qaV _),fun x c h=> ?_,fun p hp=>absurd (show p∈([]:List (Addr×Obj)) from hp) (by simp),I.hok.kept hk,?_⟩
 ·-- has
  rcases ckind x hx with h | h
  ·exact Option.isSome_iff_exists.mp (W.cellsFrom_some scope.names _ _ (.inl h))
  ·have hm:=PySem.mem_of_lookup h
   obtain ⟨c,hc⟩:=hasF _ hm rfl
   exact ⟨c,outer hm hc⟩
 ·-- cab
  have hfn:scope.names.lookup x=some .cell:=by simpa using hfn
  rcases all (lk hx) with ⟨_,z⟩ | ⟨z,_⟩
  ·exact absurd (zh7 B.keys z (PySem.mem_of_lookup hfn)) (by decide)
  ·exact Nat.le_of_lt z
 ·-- exf
  obtain ⟨o,ho⟩:=hfo b hb
  refine ⟨qaR (qaQ ho),fun x c hx z=> ?_⟩
  rcases all (lk hx) with ⟨q,_⟩ | ⟨q,_⟩
  ·exact (hf b hb).2.2.2.2.1 x c q z
  ·have:=qaQ ho
   rw [<- z] at this
   exact qaN _ (Nat.lt_trans q this)
 ·-- noex
  rcases (hf b hb).2.2.2.1 with z | z
  ·exact I.ok.noex b o e z
  ·exact qaN _ (qaw (qaw (qaQ e) I.ok.bsz) z)
 ·-- exfs
  rcases qaP.mp (I.stkSub b hb') with z | z
  ·exact (hf b hb).2.1 z
  ·exact (hf b hb).2.2.1 z
 ·-- loc
  unfold bStart at h2
  rw [List.getElem?_map] at h2
  cases e:src[i]? with
  | none=>rw [e] at h2;cases h2
  | some o=>
   rw [e] at h2
   cases o with
   | none=>cases h2
   | some j=>
    have h2:(σ[j]?).join=some v:=by simpa using h2
    have e3:σ[j]? = some (some v):=by
     cases q:σ[j]? with
     | none=>rw [q] at h2;cases h2
     | some z=>rw [q] at h2;simp at h2;rw [h2]
    obtain ⟨b1,b2⟩:=B.src i j x e h1
    have hm:=PySem.mem_of_lookup b2
    obtain ⟨m,hn,hl⟩:=I.loc
    have hfr:=B.free _ hm rfl
    obtain ⟨u,r,l⟩:=hl j x v b1 e3 (.inr hfr)
    rcases l with ⟨k,_⟩ | ⟨k,c,hc,q⟩
    ·rcases hfr with z | z<;>(have z':=k.symm.trans z;cases z')
    ·refine ⟨u,r,.inr ⟨?_,c,outer hm hc,q.keeps hk⟩⟩
     rw [kinds x,b2]
     dsimp only [Option.map]
     split
     ·exact .inl rfl
     ·exact .inr rfl
 ·-- cell
  rcases all (lk h) with ⟨q,_⟩ | ⟨q,q'⟩
  ·obtain ⟨v,z⟩:=I.cell x c q
   exact ⟨v,z.keeps hk⟩
  ·exact ⟨none,hce x c q' (lk h) fun z=>absurd (Nat.lt_trans q (old (cin z).1)) (qaN _)⟩
 ·-- freeC
  rcases all (lk h) with ⟨q,_⟩ | ⟨q,q'⟩
  ·exact I.freeC x c q
  ·exact I.hok.fresh (Nat.le_of_lt q)
 ·unfold bStart
  rw [qaH]
  exact B.len
end
def PCs (X:Cx) (ifs:List Expr) (t:TT):Prop:=
 ∀ (pins:List (Addr×Obj)) (s:Shared) (σ:St) (H:Hp) (Q:Bool->Hp->Prop),Inv X pins σ H s->t σ H Q->
  wpAny (model X.prog X.w) X.A (forIn ifs true fun c r=>if r=true then do let ok<-isTrue c X.env (eval c X.env);pure (ForInStep.yield ok) else pure (ForInStep.yield r)) (TP X pins σ Q) X.xe s
noncomputable def zuF:TT:=fun _ H Q=>Q true H
theorem zps {X:Cx}:PCs X [] zuF:=fun pins s σ H Q I h=>wpAny_tests_nil ⟨H,I,h⟩
theorem zoJ {X:Cx} {c:Expr} {t:TT} (h:PT X c t):PCs X [c] t:=fun pins s σ H Q I hw=>wpAny_tests_one (h pins s σ H Q I hw)
def ztp (J:It) (g:TG) (tc:TT) (te:TE) (σ0:St) (H1:Hp) (D:Addr) (Q:Hp->Prop):Prop:=
 ∃ W:Nat->Nat->St->Hp->Prop,(∃ m,W 0 m σ0 (upd H1 D (.lst [])))/\ ∀ i m σ' H',W i m σ' H'->
  (J.stop i H'/\Q H')\/(J.go i H'/\ ∃ Nn:St->Hp->Prop,(∀ σ2 H2,Nn σ2 H2-> ∃ m',m'<m/\W (i+1) m' σ2 H2)/\ ∀ x H2,J.yld i H' x H2->g x σ' H2 fun σ2 H3=>tc σ2 H3 fun b H4=>
    if b=true then te σ2 H4 fun y H5=> ∃ xs,H5 D=some (.lst xs)/\xs.length<sizeLine/\Nn σ2 (upd H5 D (.lst (xs++[y]))) else Nn σ2 H4)
section
variable {X:Cx} {scope:Scope} {N:List Str} {src:List (Option Nat)} {tg iter elt:Expr} {ifs:List Expr} {pos:Pos}
theorem zjw {pins:List (Addr×Obj)} {σ:St} {H:Hp} {s₂:Shared} {it:Addr} {fp:List Addr} {tn:Nat->Heap->Prop} {J:It} {g:TG} {tc:TT} {te:TE} {Q:Addr->Hp->Prop} {E:Value->Shared->Prop} {RR:Value->Addr->Result->Shared->Prop}
  (B:BOk X scope N src)
  (hg: ∀ s H fp,PG (cxB X scope N s H fp) tg g) (ht: ∀ s H fp,PCs (cxB X scope N s H fp) ifs tc) (he: ∀ s H fp,PE (cxB X scope N s H fp) elt te)
  (I2:Inv X pins σ H s₂) (T:zqm X.prog X.w X.K tg J fp it tn) (st2:tn 0 s₂.heap) (f2: ∀ b∈fp,zia X pins H b) (hw: ∀ D,H D=none->ztp J g tc te (bStart src σ) H D (Q D))
  (hRR: ∀ D C H' s' m,Inv X pins σ H' s'->s'.heap.Ns C m->s₂.heap.objs.size<=C->C<s'.heap.objs.size->H' C=none->Q D H'->RR (.ref D) C (.ok .next) s'):
  wpAny (model X.prog X.w) X.A (newList []) (fun acc s₃=>wpAny (model X.prog X.w) X.A (newFunctionEnv scope X.env.globals (zbI X.env.cells scope.names []) [] X.env.qual none .none (some X.env)) (fun cenv s₄=>
    codeAny (model X.prog X.w) X.A (.compStart (.ListComp elt [⟨tg,iter,ifs,0⟩] scope pos) 0 (.ref it) acc {cenv with scope:=relabel scope X.env}) (RR acc cenv.locals) s₄) E s₃) E s₂:=by
 refine qaC (zf7 fun h₁ hk₁ hns₁ hce₁=> ?_)
 dsimp only at hk₁ hns₁ hce₁ ⊢
 have hfresh:H s₂.heap.objs.size=none:=I2.hok.fresh (qaV _)
 have I3:Inv X pins σ (upd H s₂.heap.objs.size (.lst [])) {s₂ with heap:=s₂.heap.push {cls:= .type "list",dict:=none,data:= .seq ([]:List Value).toArray}}:=by
  have:=I2.lnew (its:=[]) (ys:=[]) (t':=s₂.toks) .nil (Nat.zero_le _)
  exact this
 obtain ⟨W,⟨m0,w0⟩,turn⟩:=hw _ hfresh
 generalize hD:s₂.heap.objs.size=D at*
 generalize hs3:({s₂ with heap:=s₂.heap.push {cls:= .type "list",dict:=none,data:= .seq ([]:List Value).toArray}}:Shared)=s₃ at*
 have hh3:s₂.heap.push {cls:= .type "list",dict:=none,data:= .seq ([]:List Value).toArray}=s₃.heap:=by rw [<- hs3]
 rw [hh3] at hk₁ hns₁ hce₁ ⊢
 have push3: ∀ b o,s₂.heap.get? b=some o->s₃.heap.get? b=some o:=fun b o e=>by rw [<- hs3];exact qag _ e
 have sz3:s₃.heap.objs.size=D+1:=by rw [<- hs3, <-hD];exact qaL ..
 have fpo: ∀ b∈fp, ∃ o,s₂.heap.get? b=some o/\ ∀ v,o.data≠ .cell v:=T.obj _ _ st2
 have fpD: ∀ b∈fp,b≠D:=fun b hb z=>by
  obtain ⟨o,e,_⟩:=fpo b hb
  have:=qaQ e
  rw [z, <-hD] at this
  exact qaN _ this
 have f3: ∀ b∈fp,zia X pins (upd H D (.lst [])) b:=fun b hb=>⟨by rw [zaF (fpD b hb)];exact (f2 b hb).1,(f2 b hb).2⟩
 have I4:Inv (cxB X scope N s₃ (upd H D (.lst [])) fp) [] (bStart src σ) (upd H D (.lst [])) {s₃ with heap:=h₁}:=
  zk7 I3 B f3 (fun b hb=>let ⟨o,e,_⟩:=fpo b hb;⟨o,push3 b o e⟩) hk₁ hns₁ hce₁
 have fB: ∀ {H':Hp},(∀ b∈fp,H' b=none)-> ∀ b∈fp,zia (cxB X scope N s₃ (upd H D (.lst [])) fp) [] H' b:=fun {H'} hn b hb=>
  ⟨hn b hb,(I4.ok.exf b hb).1,I4.ok.exfs b hb,.inl hb,fun x c e=>(I4.ok.exf b hb).2 x c e,fun p hp=>absurd (show p∈([]:List (Addr×Obj)) from hp) (by simp)⟩
 have stat4: ∀ s',s'=({s₃ with heap:=h₁}:Shared)->codeAny (model X.prog X.w) X.A (.compLoop (.ListComp elt [⟨tg,iter,ifs,0⟩] scope pos) 0 (.ref it) (.ref D) (zpi X.env scope s₃.heap.objs.size)) (RR (.ref D) s₃.heap.objs.size) s':=by
  intro s' es
  refine zhy (fun n s'=> ∃ i σ' H',Inv (cxB X scope N s₃ (upd H D (.lst [])) fp) [] σ' H' s'/\tn i s'.heap/\(∀ b∈fp,H' b=none)/\W i n σ' H') ?_ m0 ⟨0,_,_,by rw [es];exact I4,by rw [es];exact T.keep _ _ _ st2 fun b hb o e=>hk₁ b o (push3 b o e),fun b hb=>(f3 b hb).1,w0⟩
  rintro n s5 ⟨i,σ5,H5,I5,st5,fr5,w5⟩
  rcases turn i n σ5 H5 w5 with ⟨stop,qn⟩ | ⟨go,Nn,hN,step⟩
  ·refine thn (T.done (cxB X scope N s₃ (upd H D (.lst [])) fp) rfl rfl rfl i [] s5 σ5 H5 _ I5 (fB fr5) st5 stop) fun r s6 ⟨hr,I6⟩=> ?_
   subst hr
   obtain ⟨m,hnC,_⟩:=I6.loc
   have un:=I6.base
   have u2:Un (frs X.stack) fp H H5 s₂.heap s6.heap:=by
    refine Un.trans ?_ un
    have:=Un.laid (fs:=frs X.stack) (ex:=fp) (H:=H) (h:=s₂.heap) (h':=s₃.heap) (a:=D) (o:= .lst []) push3 (Nat.le_of_eq hD) hfresh
    exact this
   refine hRR D _ H5 s6 m (I2.call' (ch:=fp) (by rw [I6.os, <-hs3]) u2 I6.hok I6.bare fun b hb=> ?_) hnC (by rw [sz3];exact Nat.le_succ _) hnC.lt I6.free qn
   obtain ⟨q0,q1,q2,q3,q4,q5⟩:=f2 b hb
   exact ⟨q3,q1,q4,q5⟩
  ·refine thn (T.item (cxB X scope N s₃ (upd H D (.lst [])) fp) rfl rfl rfl i [] s5 σ5 H5 _ I5 (fB fr5) st5 go) fun r s6 ⟨u,hr,h6⟩=> ?_
   subst hr
   refine thn h6 fun _ s7 ⟨x,H7,I7,r7,y7,st7,fr7⟩=> ?_
   have I7':=I7.pinned (fB fr7) (T.obj _ _ st7)
   refine thn (hg _ _ _ _ s7 σ5 H7 x u _ I7' r7 (step x H7 y7)) fun _ s8 ⟨σ8,H8,I8,q8⟩=> ?_
   refine thn (ht _ _ _ _ s8 σ8 H8 _ I8 q8) fun ok s9 ⟨H9,I9,q9⟩=> ?_
   have again: ∀ {σ7:St} {Hz:Hp} {sz:Shared},Inv (cxB X scope N s₃ (upd H D (.lst [])) fp) ([]++zhQ fp s7.heap) σ7 Hz sz->Nn σ7 Hz-> ∃ m,m<n/\ ∃ i σ' H',Inv (cxB X scope N s₃ (upd H D (.lst [])) fp) [] σ' H' sz/\tn i sz.heap/\(∀ b∈fp,H' b=none)/\W i m σ' H':=fun {σz Hz sz} Iz nz=>by
    obtain ⟨m',hm,wz⟩:=hN _ _ nz
    refine ⟨m',hm,i+1,_,_,Iz.unpinned,T.keep _ _ _ st7 fun b hb o e=>(Iz.pin (b,o) (qak _ (qak _ (zdI hb e)))).1,fun b hb=> ?_,wz⟩
    obtain ⟨o,e,d⟩:=T.obj _ _ st7 b hb
    exact (Iz.pin (b,o) (qak _ (qak _ (zdI hb e)))).2.1
   cases ok with
   | false=>
    rw [qa5 (by decide)] at q9
    rw [qa5 (by decide)]
    exact again I9 q9
   | true=>
    rw [qa4 rfl] at q9
    rw [qa4 rfl]
    refine thn (he _ _ _ _ s9 σ8 H9 _ I9 q9) fun y s10 ⟨yv,H10,I10,ry,xs,e10,z10,q10⟩=> ?_
    refine thn (zh2 (X:=cxB X scope N s₃ (upd H D (.lst [])) fp) _ s10 σ8 H10 (.ref D) [yv] (.ref D) [y] (fun _ Hf=>Nn σ8 Hf) I10 rfl (.cons ry .nil) ⟨D,xs,yv,rfl,rfl,e10,z10,q10⟩) fun _ s11 ⟨_,H11,I11,_,q11⟩=> ?_
    exact again I11 q11
 exact codeAny_compStart_list (stat4 _ (by rw [<- hs3])) (T.self _ 0 _ _ _ (T.keep _ _ _ st2 fun b hb o e=>hk₁ b o (push3 b o e)) (stat4 _ (by rw [<- hs3])))
noncomputable def zoP (wi:TI) (g:TG) (tc:TT) (te:TE) (src:List (Option Nat)):TE:=fun σ H Q=>wi σ H fun J H1=> ∀ D,H1 D=none->ztp J g tc te (bStart src σ) H1 D fun H'=>Q (.ref D) H'
theorem Inv.letGo {pins:List (Addr×Obj)} {σ:St} {H:Hp} {s:Shared} {C:Addr} {m:Str->Option Value} {h':Heap} (I:Inv X pins σ H s) (hn:s.heap.Ns C m) (hn':H C=none) (hC:X.s₀.heap.objs.size<=C) (hL:C≠X.env.locals) (hp: ∀ p∈X.pn++pins,p.1≠C) (hs:Heap.SameBut C s.heap h'):Inv X pins σ H {s with heap:=h'}:=by
 refine I.turned (t':=s.toks) (it:=C) (fun b o hb e=>(hs.2 b hb).trans e) hn' hL (.inr hC) (fun x c e z=> ?_) hp
 obtain ⟨v,o,ho,hd⟩:=I.cell x c e
 obtain ⟨o',es,ep,ho',hd',_⟩:=hn
 rw [z,ho'] at ho
 cases ho
 rw [hd'] at hd
 cases hd
theorem zo2 {wi:TI} {g:TG} {tc:TT} {te:TE} (B:BOk X scope N src) (hi:PI X tg iter wi)
  (hg: ∀ s H fp,PG (cxB X scope N s H fp) tg g) (ht: ∀ s H fp,PCs (cxB X scope N s H fp) ifs tc) (he: ∀ s H fp,PE (cxB X scope N s H fp) elt te)
  (hs: ∀ x,foldedSetIterable iter X.env x=pure x:=by intro _;rfl):PE X (.ListComp elt [⟨tg,iter,ifs,0⟩] scope pos) (zoP wi g tc te src):=by
 intro pins s σ H Q I h
 rw [eval_ListComp]
 refine wpAny_comprehension_free (use:=none) rfl hs (zeu fun x hx e=>I.ok.has x.1 (B.free x hx e)) B.kind B.locs ?_
 refine thn (hi pins s σ H _ I h) fun v s1 h1=>thn h1 fun itv s2 h2=> ?_
 obtain ⟨it,fp,tn,J,H2,e,I2,T,st2,f2,hw⟩:=h2
 subst e
 refine zjw (RR:=fun acc C=>compPost (model X.prog X.w) X.A X.xe none (EP X pins σ Q) acc C) (Q:=fun D H'=>Q (.ref D) H') B hg ht he I2 T st2 f2 hw ?_
 intro D C H' s' m I' hn hC hCs hf q
 refine ⟨m,hn,fun h' hs'=>⟨.ref D,H',I'.letGo hn hf (qaS I2.sz hC) (fun z=> ?_) (fun p hp z=> ?_) hs',rfl,q⟩⟩
 ·exact qaN _ (qaw (z▸I2.lt) hC)
 ·have:=qaQ (I2.pin p hp).1
  rw [z] at this
  exact qaN _ (qaw this hC)
theorem zjZ {wi:TI} {g:TG} {tc:TT} {te:TE} {i:Nat} {y:Str} {py spos:Pos} (B:BOk X scope N src) (hi:PI X tg iter wi)
  (hg: ∀ s H fp,PG (cxB X scope N s H fp) tg g) (ht: ∀ s H fp,PCs (cxB X scope N s H fp) ifs tc) (he: ∀ s H fp,PE (cxB X scope N s H fp) elt te)
  (hN:X.N.Nodup) (hy:X.N[i]? = some y) (hx:Loc X.env.scope y) (hsw:swapsWith (.ListComp elt [⟨tg,iter,ifs,0⟩] scope pos) (some (.Name y py)) spos.line X.env=pure true)
  (hf:X.fn y=true\/X.env.scope.names.lookup y=some .local:=by first | exact .inl rfl | exact .inr rfl | assumption)
  (hs: ∀ x,foldedSetIterable iter X.env x=pure x:=by intro _;rfl):PS X (.Assign [.Name y py] (.ListComp elt [⟨tg,iter,ifs,0⟩] scope pos) spos) (ztl (zoP wi g tc te src) (zp3 i)):=by
 intro pins s σ H D0 I h
 rw [exec_Assign_Name_used _ _ _ _ hsw]
 refine qaW (wpAny_standAt (qaW ?_))
 show wpAny _ X.A (do let _<-comprehension (.ListComp elt [⟨tg,iter,ifs,0⟩] scope pos) scope X.env _ (newList []) false (eval iter X.env) (some (assign (.Name y py) X.env))) _ _ s
 refine qaW (qaZ (wpAny_comprehension_free (use:=some (assign (.Name y py) X.env)) (Q:=fun _ s'=>SP X pins D0 .next s') rfl hs (zeu fun x hx e=>I.ok.has x.1 (B.free x hx e)) B.kind B.locs ?_)
   (fun _ s' hq=>qaX (qaX hq)) fun _ _ e=>e)
 refine thn (hi pins s σ H _ I h) fun v s1 h1=>thn h1 fun itv s2 h2=> ?_
 obtain ⟨it,fp,tn,J,H2,e,I2,T,st2,f2,hw⟩:=h2
 subst e
 refine zjw (RR:=fun acc C=>compPost (model X.prog X.w) X.A X.xe (some (assign (.Name y py) X.env)) (fun _ s'=>SP X pins D0 .next s') acc C) (Q:=fun D H'=>D0.nx (σ.set i (some (.ref D))) H') B hg ht he I2 T st2 f2 hw ?_
 intro D C H' s' m I' hn hC hCs hf' q
 show wpAny _ X.A (assign (.Name y py) X.env (.ref D)) _ _ _
 have hCL:C≠X.env.locals:=fun z=>qaN _ (qaw (z▸I2.lt) hC)
 have hCp: ∀ p∈X.pn++pins,p.1≠C:=fun p hp z=>by
  have:=qaQ (I2.pin p hp).1
  rw [z] at this
  exact qaN _ (qaw this hC)
 have hCc: ∀ x c,X.env.cells.lookup x=some c->c≠C:=fun x c e z=>by
  obtain ⟨v,hv⟩:=I2.cell x c e
  exact qaN _ (qaw (z▸hv.lt) hC)
 obtain ⟨oC,es,ep,hoC,hdC,hrest⟩:=hn
 have hCfs:C∉X.fs:=I2.nofs hC
 have Ip:Inv X (pins++[(C,oC)]) σ H' s':=I'.pins_of fun p hp=>by
  rcases qaK.mp hp with z | z
  ·exact I'.pin p (qak _ z)
  ·obtain rfl:p=(C,oC):=by simpa using z
   exact ⟨hoC,hf',hCL,hCfs,fun v z=>by have z':=hdC.symm.trans z;cases z'⟩
 refine wpAny_assign_Name (zfg Ip hN hy hx (v:= .ref D) rfl (fun s3 I3=> ?_) hf)
 have hC3:=(I3.pin (C,oC) (by simp)).1
 refine ⟨m,⟨oC,es,ep,hC3,hdC,hrest⟩,fun h' hs'=> ?_⟩
 exact ⟨_,H',(I3.unpinned).letGo ⟨oC,es,ep,hC3,hdC,hrest⟩ hf' (qaS I2.sz hC) hCL hCp hs',q⟩
end
end L2
namespace L3
open PySem PySem.Spec PyProof.Rows L2
inductive D where
 | non | bl (b:Bool) | int (i:Int) | str (x:Str) | tup (xs:List D) | lst (xs:List D) | cel (n:Nat) | set (xs:List Int) | dct | fn (a:Addr) | scr (xs:List D) | exn (c:String)
inductive C where
 | lst (xs:List D) | dic (kvs:List (Int×D)) | dead
noncomputable abbrev Hh:=List C
structure Io where
 c:List (Option Addr)
 x:List Addr
def Io.Has (ι:Io) (a:Addr):Prop:=some a∈ι.c\/a∈ι.x
inductive R (α:Type) where
 | ok (a:α) (h:Hh) | exc (c:String) (h:Hh) | bad
noncomputable def M (α:Type):=Hh->R α
@[inline] noncomputable def M.bind {α β:Type} (m:M α) (f:α->M β):M β:=fun h=>match m h with
 | .ok a h'=>f a h'
 | .exc c h'=> .exc c h'
 | .bad=> .bad
@[inline] noncomputable def M.pure {α:Type} (a:α):M α:=fun h=> .ok a h
noncomputable instance:Monad M where
 pure:=M.pure
 bind:=M.bind
noncomputable def M.bad {α:Type}:M α:=fun _=> .bad
def KL (K:W.Frag) (a:Addr) (xs:List V):Prop:=SqL K (fun _=>none) a xs
mutual
noncomputable def Rel (K:W.Frag) (ι:Io) (H:Hp):D->V->Prop
 | .non,v=>v= .non
 | .bl b,v=>v= .bl b
 | .int i,v=>v= .int i
 | .str x,v=>v= .str x
 | .tup ds,v=> ∃ a vs,v= .ref a/\(H a=some (.tup vs)/\ ¬ι.Has a)/\zat K ι H ds vs
 | .lst ds,v=> ∃ a vs,v= .ref a/\(H a=some (.lst vs)/\ ¬ι.Has a)/\zat K ι H ds vs
 | .scr ds,v=> ∃ a vs,v= .ref a/\((Rd H a (.lst vs)/\ ¬ι.Has a)\/KL K a vs)/\zat K ι H ds vs
 | .cel n,v=> ∃ a,v= .ref a/\(ι.c[n]? = some (some a)\/ι.c[n]? = some none)
 | .set xs,v=> ∃ a,v= .ref a/\H a=some (.set (fun k=>xs.any (· == k)) xs.length)/\ ¬ι.Has a
 | .dct,v=> ∃ a,v= .ref a/\H a=some (.dK [])/\ ¬ι.Has a
 | .fn a,v=>v= .ref a
 | .exn c,v=> ∃ a o C head vs,v= .ref a/\(H a=some (.frz o (.own 0))/\ ¬ι.Has a)/\W.nsIn K mainGlobals (c:Str)=some (some (.ref C))/\o.cls= .ref C/\o.dict=none/\o.data= .fields vs/\vs[2]? = some .none/\vs[1]? = some head
noncomputable def zat (K:W.Frag) (ι:Io) (H:Hp):List D->List V->Prop
 | [],vs=>vs=[]
 | d::ds,vs=> ∃ v r,vs=v::r/\Rel K ι H d v/\zat K ι H ds r
end
structure zch (ι:Io) (H:Hp) (ι':Io) (H':Hp):Prop where
 old: ∀ (n:Nat) (o:Option Addr),ι.c[n]? = some o->ι'.c[n]? = some o\/ι'.c[n]? = some none
 new: ∀ a,some a∈ι'.c->some a∈ι.c\/H a=none
 hid:ι'.x=ι.x
 hidk: ∀ a∈ι.x,H' a=H a
 keep: ∀ b o,H b=some o-> ¬ι.Has b->H' b=some o
theorem zch.refl (ι:Io) (H:Hp):zch ι H ι H:=⟨fun _ _ h=> .inl h,fun _ h=> .inl h,rfl,fun _ _=>rfl,fun _ _ h _=>h⟩
theorem zch.nin {ι ι':Io} {H H':Hp} (s:zch ι H ι' H') {a:Addr} {o:HO} (h:H a=some o) (n: ¬ι.Has a): ¬ι'.Has a:=fun z=>by
 rcases z with z | z
 ·rcases s.new a z with z | z
  ·exact n (.inl z)
  ·rw [h] at z;cases z
 ·rw [s.hid] at z;exact n (.inr z)
theorem zch.trans {ι ι1 ι2:Io} {H H1 H2:Hp} (s:zch ι H ι1 H1) (t:zch ι1 H1 ι2 H2):zch ι H ι2 H2 where
 old:=fun n o h=>by
  rcases s.old n o h with h | h
  ·exact t.old n o h
  ·rcases t.old n _ h with h | h<;>exact .inr h
 new:=fun a h=>by
  rcases t.new a h with h | h
  ·exact s.new a h
  ·by_cases z:some a∈ι.c
   ·exact .inl z
   ·refine .inr ?_
    cases q:H a with
    | none=>rfl
    | some o=>
     by_cases z':a∈ι.x
     ·rw [s.hidk a z',q] at h;cases h
     ·rw [s.keep a o q (fun w=>w.elim z z')] at h;cases h
 hid:=t.hid.trans s.hid
 hidk:=fun a h=>(t.hidk a (by rw [s.hid];exact h)).trans (s.hidk a h)
 keep:=fun b o h n=>t.keep b o (s.keep b o h n) (s.nin h n)
theorem zch.rd {ι ι':Io} {H H':Hp} (s:zch ι H ι' H') {a:Addr} {u:HO} (h:Rd H a u) (n: ¬ι.Has a):Rd H' a u/\ ¬ι'.Has a:=by
 rcases h with h | ⟨o,h⟩
 ·exact ⟨.inl (s.keep _ _ h n),s.nin h n⟩
 ·exact ⟨.inr ⟨o,s.keep _ _ h n⟩,s.nin h n⟩
structure Pass (ι:Io) (H:Hp) (ι':Io) (H':Hp):Prop where
 old: ∀ (n:Nat) (o:Option Addr),ι.c[n]? = some o->ι'.c[n]? = some o\/ι'.c[n]? = some none
 keep: ∀ b o,H b=some o-> ¬ι.Has b->H' b=some o/\ ¬ι'.Has b
theorem zch.pass {ι ι':Io} {H H':Hp} (s:zch ι H ι' H'):Pass ι H ι' H':=⟨s.old,fun b o h n=>⟨s.keep b o h n,s.nin h n⟩⟩
theorem Pass.rd {ι ι':Io} {H H':Hp} (s:Pass ι H ι' H') {a:Addr} {u:HO} (h:Rd H a u) (n: ¬ι.Has a):Rd H' a u/\ ¬ι'.Has a:=by
 rcases h with h | ⟨o,h⟩
 ·exact ⟨.inl (s.keep _ _ h n).1,(s.keep _ _ h n).2⟩
 ·exact ⟨.inr ⟨o,(s.keep _ _ h n).1⟩,(s.keep _ _ h n).2⟩
section
variable {K:W.Frag} {ι ι':Io} {H H':Hp}
mutual
theorem Rel.pass (s:Pass ι H ι' H'): ∀ {d:D} {v:V},Rel K ι H d v->Rel K ι' H' d v
 | .non,_,h=>by simpa [Rel] using h
 | .bl _,_,h=>by simpa [Rel] using h
 | .int _,_,h=>by simpa [Rel] using h
 | .str _,_,h=>by simpa [Rel] using h
 | .tup ds,v,h=>by
  simp only [Rel] at h ⊢
  obtain ⟨a,vs,e,h1,h2⟩:=h
  exact ⟨a,vs,e,s.keep _ _ h1.1 h1.2,zat.pass s h2⟩
 | .lst ds,v,h=>by
  simp only [Rel] at h ⊢
  obtain ⟨a,vs,e,h1,h2⟩:=h
  exact ⟨a,vs,e,s.keep _ _ h1.1 h1.2,zat.pass s h2⟩
 | .scr ds,v,h=>by
  simp only [Rel] at h ⊢
  obtain ⟨a,vs,e,h1,h2⟩:=h
  exact ⟨a,vs,e,h1.imp (fun z=>s.rd z.1 z.2) id,zat.pass s h2⟩
 | .cel n,v,h=>by
  simp only [Rel] at h ⊢
  obtain ⟨a,e,h⟩:=h
  refine ⟨a,e,?_⟩
  rcases h with h | h
  ·exact s.old n _ h
  ·rcases s.old n _ h with h | h<;>exact .inr h
 | .set xs,v,h=>by
  simp only [Rel] at h ⊢
  obtain ⟨a,e,h,n⟩:=h
  exact ⟨a,e,(s.keep _ _ h n).1,(s.keep _ _ h n).2⟩
 | .dct,v,h=>by
  simp only [Rel] at h ⊢
  obtain ⟨a,e,h,n⟩:=h
  exact ⟨a,e,(s.keep _ _ h n).1,(s.keep _ _ h n).2⟩
 | .fn _,_,h=>by simpa [Rel] using h
 | .exn _,_,h=>by
  simp only [Rel] at h ⊢
  obtain ⟨a,o,C,head,vs,e,h1,h2⟩:=h
  exact ⟨a,o,C,head,vs,e,s.keep _ _ h1.1 h1.2,h2⟩
theorem zat.pass (s:Pass ι H ι' H'): ∀ {ds:List D} {vs:List V},zat K ι H ds vs->zat K ι' H' ds vs
 | [],_,h=>by simpa [zat] using h
 | d::ds,_,h=>by
  simp only [zat] at h ⊢
  obtain ⟨v,r,e,h1,h2⟩:=h
  exact ⟨v,r,e,Rel.pass s h1,zat.pass s h2⟩
end
theorem Rel.step (s:zch ι H ι' H') {d:D} {v:V} (h:Rel K ι H d v):Rel K ι' H' d v:=h.pass s.pass
theorem zat.step (s:zch ι H ι' H') {ds:List D} {vs:List V} (h:zat K ι H ds vs):zat K ι' H' ds vs:=h.pass s.pass
theorem zat.nil:zat K ι H [] []:=by simp [zat]
theorem zat.cons {d:D} {ds:List D} {v:V} {vs:List V} (h:Rel K ι H d v) (t:zat K ι H ds vs):zat K ι H (d::ds) (v::vs):=by simp only [zat];exact ⟨v,vs,rfl,h,t⟩
theorem zat.length: ∀ {ds:List D} {vs:List V},zat K ι H ds vs->ds.length=vs.length
 | [],_,h=>by simp only [zat] at h;subst h;rfl
 | d::ds,_,h=>by
  simp only [zat] at h
  obtain ⟨v,r,rfl,_,h⟩:=h
  simp [zat.length h]
theorem zat.get: ∀ {ds:List D} {vs:List V} {i:Nat} {d:D},zat K ι H ds vs->ds[i]? = some d-> ∃ v,vs[i]? = some v/\Rel K ι H d v
 | [],_,_,_,_,e=>by simp at e
 | d::ds,_,i,x,h,e=>by
  simp only [zat] at h
  obtain ⟨v,r,rfl,h1,h2⟩:=h
  cases i with
  | zero=>simp at e;subst e;exact ⟨v,rfl,h1⟩
  | succ i=>simp at e;simpa using zat.get h2 e
theorem zat.getV: ∀ {ds:List D} {vs:List V} {i:Nat} {v:V},zat K ι H ds vs->vs[i]? = some v-> ∃ d,ds[i]? = some d/\Rel K ι H d v
 | [],_,_,_,h,e=>by simp only [zat] at h;subst h;simp at e
 | d::ds,_,i,x,h,e=>by
  simp only [zat] at h
  obtain ⟨v,r,rfl,h1,h2⟩:=h
  cases i with
  | zero=>simp at e;subst e;exact ⟨d,rfl,h1⟩
  | succ i=>simp at e;simpa using zat.getV h2 e
theorem zat.append: ∀ {ds es:List D} {vs ws:List V},zat K ι H ds vs->zat K ι H es ws->zat K ι H (ds++es) (vs++ws)
 | [],_,_,_,h,t=>by simp only [zat] at h;subst h;exact t
 | d::ds,es,_,ws,h,t=>by
  simp only [zat] at h
  obtain ⟨v,r,rfl,h1,h2⟩:=h
  exact zat.cons h1 (zat.append h2 t)
theorem zat.take: ∀ {ds:List D} {vs:List V} (n:Nat),zat K ι H ds vs->zat K ι H (ds.take n) (vs.take n)
 | _,_,0,_=>by simpa using zat.nil
 | [],_,n+1,h=>by simp only [zat] at h;subst h;exact zat.nil
 | d::ds,_,n+1,h=>by
  simp only [zat] at h
  obtain ⟨v,r,rfl,h1,h2⟩:=h
  exact zat.cons h1 (zat.take n h2)
theorem zat.drop: ∀ {ds:List D} {vs:List V} (n:Nat),zat K ι H ds vs->zat K ι H (ds.drop n) (vs.drop n)
 | _,_,0,h=>h
 | [],_,n+1,h=>by simp only [zat] at h;subst h;exact zat.nil
 | d::ds,_,n+1,h=>by
  simp only [zat] at h
  obtain ⟨v,r,rfl,h1,h2⟩:=h
  exact zat.drop n h2
theorem zat.reverse {ds:List D} {vs:List V} (h:zat K ι H ds vs):zat K ι H ds.reverse vs.reverse:=by
 induction ds generalizing vs with
 | nil=>simp only [zat] at h;subst h;exact zat.nil
 | cons d ds ih=>
  simp only [zat] at h
  obtain ⟨v,r,rfl,h1,h2⟩:=h
  rw [List.reverse_cons,List.reverse_cons]
  exact zat.append (ih h2) (zat.cons h1 zat.nil)
theorem zat.set {d:D} {v:V} (hd:Rel K ι H d v): ∀ {ds:List D} {vs:List V} (i:Nat),zat K ι H ds vs->zat K ι H (ds.set i d) (vs.set i v)
 | [],_,_,h=>by simp only [zat] at h;subst h;exact zat.nil
 | x::ds,_,i,h=>by
  simp only [zat] at h
  obtain ⟨w,r,rfl,h1,h2⟩:=h
  cases i with
  | zero=>exact zat.cons hd h2
  | succ i=>exact zat.cons h1 (zat.set hd i h2)
theorem zdC: ∀ {is:List Int} {vs:List V},zat K ι H (is.map D.int) vs↔vs=is.map V.int
 | [],vs=>by simp [zat]
 | i::is,vs=>by
  simp only [qaM,zat]
  constructor
  ·rintro ⟨v,r,rfl,h1,h2⟩
   simp only [Rel] at h1
   rw [h1,zdC.mp h2]
  ·rintro rfl
   exact ⟨_,_,rfl,by simp [Rel],zdC.mpr rfl⟩
noncomputable def CO (K:W.Frag) (ι:Io) (H:Hp):C->HO->Prop
 | .lst ds,o=> ∃ vs,o= .lst vs/\zat K ι H ds vs
 | .dic kvs,o=> ∃ vs,o= .dK vs/\Paired (fun (p:Int×D) (q:Key×V)=>q.1= .inl p.1/\Rel K ι H p.2 q.2) kvs vs
 | .dead,_=>False
theorem CO.pass {c:C} {o:HO} (s:Pass ι H ι' H') (h:CO K ι H c o):CO K ι' H' c o:=by
 cases c with
 | lst ds=>obtain ⟨vs,e,r⟩:=h;exact ⟨vs,e,r.pass s⟩
 | dic kvs=>
  obtain ⟨vs,e,r⟩:=h
  refine ⟨vs,e,?_⟩
  clear e
  induction r with
  | nil=>exact .nil
  | cons a t ih=>exact .cons ⟨a.1,a.2.pass s⟩ ih
 | dead=>exact h
structure zbg (K:W.Frag) (ι:Io) (H:Hp) (h:Hh):Prop where
 len:h.length=ι.c.length
 inj: ∀ (m n:Nat) (a:Addr),ι.c[m]? = some (some a)->ι.c[n]? = some (some a)->m=n
 at_: ∀ (n:Nat) (a:Addr) (c:C),ι.c[n]? = some (some a)->h[n]? = some c-> ∃ o,H a=some o/\CO K ι H c o
 dead: ∀ (n:Nat),ι.c[n]? = some none->h[n]? = some .dead
 hidt: ∀ a∈ι.x,(∃ o,H a=some o)/\some a∉ι.c
noncomputable abbrev Sd:=List (Option D)
def zc1 (K:W.Frag) (ι:Io) (H:Hp) (sd:Sd) (σ:L2.St):Prop:=sd.length=σ.length/\ ∀ (i:Nat) (d:D),sd[i]? = some (some d)-> ∃ v,σ[i]? = some (some v)/\Rel K ι H d v
theorem zc1.pass {sd:Sd} {σ:L2.St} (s:Pass ι H ι' H') (h:zc1 K ι H sd σ):zc1 K ι' H' sd σ:=⟨h.1,fun i d e=>let ⟨v,h1,h2⟩:=h.2 i d e;⟨v,h1,h2.pass s⟩⟩
theorem zc1.step {sd:Sd} {σ:L2.St} (s:zch ι H ι' H') (h:zc1 K ι H sd σ):zc1 K ι' H' sd σ:=⟨h.1,fun i d e=>let ⟨v,h1,h2⟩:=h.2 i d e;⟨v,h1,h2.step s⟩⟩
theorem zc1.set {sd:Sd} {σ:L2.St} {d:D} {v:V} (h:zc1 K ι H sd σ) (r:Rel K ι H d v) (i:Nat):zc1 K ι H (sd.set i (some d)) (σ.set i (some v)):=by
 refine ⟨by rw [qaI,qaI];exact h.1,fun j d' e=> ?_⟩
 by_cases hij:i=j
 ·subst hij
  by_cases hl:i<sd.length
  ·rw [qai hl] at e
   cases e
   exact ⟨v,by rw [qai (by rw [<- h.1];exact hl)],r⟩
  ·rw [List.getElem?_eq_none (by rw [qaI];omega)] at e
   cases e
 ·rw [qao hij] at e ⊢
  exact h.2 j d' e
theorem zc1.skip {sd:Sd} {σ:L2.St} {o:Option V} (h:zc1 K ι H sd σ) (i:Nat) (hn:sd[i]? = some none):zc1 K ι H sd (σ.set i o):=by
 refine ⟨by rw [qaI];exact h.1,fun j d' e=> ?_⟩
 by_cases hij:i=j
 ·subst hij;rw [hn] at e;cases e
 ·rw [qao hij];exact h.2 j d' e
end
noncomputable abbrev St:=L2.St
noncomputable abbrev XE:=String->Hp->Prop
def Fin {α:Type} (K:W.Frag) (E:XE) (ι:Io) (H:Hp) (r:R α) (P:α->Io->Hp->Prop):Prop:=match r with
 | .ok a h'=> ∀ ι' H',zch ι H ι' H'->zbg K ι' H' h'->P a ι' H'
 | .exc c h'=> ∀ ι' H',zch ι H ι' H'->zbg K ι' H' h'->E c H'
 | .bad=>False
section
variable {α β:Type} {K:W.Frag} {E:XE} {ι ι':Io} {H H':Hp}
theorem Fin.step {r:R α} {P:α->Io->Hp->Prop} (s:zch ι H ι' H') (h:Fin K E ι H r P):Fin K E ι' H' r P:=by
 cases r with
 | ok a h'=>exact fun ι2 H2 t hr=>h ι2 H2 (s.trans t) hr
 | exc c h'=>exact fun ι2 H2 t hr=>h ι2 H2 (s.trans t) hr
 | bad=>exact h
theorem Fin.mono {r:R α} {P P':α->Io->Hp->Prop} (h:Fin K E ι H r P) (m: ∀ a ι' H',P a ι' H'->P' a ι' H'):Fin K E ι H r P':=by
 cases r with
 | ok a h'=>exact fun ι2 H2 t hr=>m _ _ _ (h ι2 H2 t hr)
 | exc c h'=>exact h
 | bad=>exact h
theorem Fin.bind {m:M α} {f:α->M β} {h:Hh} {P:β->Io->Hp->Prop} {P':α->Io->Hp->Prop} (q:Fin K E ι H ((m>>=f) h) P)
  (k: ∀ a h' ι' H',m h= .ok a h'->zch ι H ι' H'->zbg K ι' H' h'->Fin K E ι' H' (f a h') P->P' a ι' H'):Fin K E ι H (m h) P':=by
 have q':Fin K E ι H (M.bind m f h) P:=q
 unfold M.bind at q'
 cases e:m h with
 | ok a h'=>
  rw [e] at q'
  intro ι' H' s hr
  exact k a h' ι' H' e s hr (Fin.step s q')
 | exc c h'=>rw [e] at q';exact q'
 | bad=>rw [e] at q';exact q'
theorem Fin.out {a:α} {h:Hh} {P:α->Io->Hp->Prop} (hr:zbg K ι H h) (q:Fin K E ι H ((pure a:M α) h) P):P a ι H:=q ι H (zch.refl _ _) hr
end
noncomputable def zhC (K:W.Frag) (E:XE) (f:Sd->M D):TE:=fun σ H Q=> ∃ ι h sd,zc1 K ι H sd σ/\zbg K ι H h/\Fin K E ι H (f sd h) fun d ι' H'=> ∀ v,Rel K ι' H' d v->Q v H'
noncomputable def zg7 (K:W.Frag) (E:XE) (f:Sd->M Bool):TT:=fun σ H Q=> ∃ ι h sd,zc1 K ι H sd σ/\zbg K ι H h/\Fin K E ι H (f sd h) fun b ι' H'=>Q b H'
noncomputable def zu4 (K:W.Frag) (E:XE) (f:Sd->M (List D)):TA:=fun σ H Q=> ∃ ι h sd,zc1 K ι H sd σ/\zbg K ι H h/\Fin K E ι H (f sd h) fun ds ι' H'=> ∀ vs,zat K ι' H' ds vs->Q vs H'
noncomputable abbrev SE (X:Cx) (E:XE) (e:Expr) (f:Sd->M D):Prop:=PE X e (zhC X.K E f)
noncomputable abbrev ST (X:Cx) (E:XE) (e:Expr) (f:Sd->M Bool):Prop:=PT X e (zg7 X.K E f)
noncomputable abbrev SA (X:Cx) (E:XE) (es:List Expr) (f:Sd->M (List D)):Prop:=PA X es (zu4 X.K E f)
noncomputable def zee (K:W.Frag) (E:XE) (F:D->D->M D):R2:=fun x y H Q=> ∃ ι h d1 d2,Rel K ι H d1 x/\Rel K ι H d2 y/\zbg K ι H h/\Fin K E ι H (F d1 d2 h) fun d ι' H'=> ∀ v,Rel K ι' H' d v->Q v H'
noncomputable def zjL (K:W.Frag) (E:XE) (F:List D->M D):List V->Hp->VK->Prop:=fun xs H Q=> ∃ ι h ds,zat K ι H ds xs/\zbg K ι H h/\Fin K E ι H (F ds h) fun d ι' H'=> ∀ v,Rel K ι' H' d v->Q v H'
theorem PE.imp {X:Cx} {e:Expr} {t t':TE} (h:PE X e t) (m: ∀ σ H Q,t' σ H Q->t σ H Q):PE X e t':=fun pins s σ H Q I q=>h pins s σ H Q I (m _ _ _ q)
theorem PT.imp {X:Cx} {e:Expr} {t t':TT} (h:PT X e t) (m: ∀ σ H Q,t' σ H Q->t σ H Q):PT X e t':=fun pins s σ H Q I q=>h pins s σ H Q I (m _ _ _ q)
theorem PA.imp {X:Cx} {e:List Expr} {t t':TA} (h:PA X e t) (m: ∀ σ H Q,t' σ H Q->t σ H Q):PA X e t':=fun pos pins s σ H Q I q=>h pos pins s σ H Q I (m _ _ _ q)
theorem OpR.imp {X:Cx} {f:Value->Value->Sem Value} {r r':R2} (h:OpR X f r) (m: ∀ x y H Q,r' x y H Q->r x y H Q):OpR X f r':=fun pins s σ H x y v u Q I rx ry q=>h pins s σ H x y v u Q I rx ry (m _ _ _ _ q)
theorem za0.imp {X:Cx} {f:Value} {r r':List V->Hp->VK->Prop} (h:za0 X f r) (m: ∀ xs H Q,r' xs H Q->r xs H Q):za0 X f r':=by
 intro pins s σ H xs us Q I rx q
 exact h pins s σ H xs us Q I rx (m _ _ _ q)
theorem IxR.imp {X:Cx} {r r':R2} (h:IxR X r) (m: ∀ x y H Q,r' x y H Q->r x y H Q):IxR X r':=by
 intro value slice pins s σ H x y v u Q I rx ry q hs
 exact h value slice pins s σ H x y v u Q I rx ry (m _ _ _ _ q) hs
theorem MtM.imp {X:Cx} {id:String} {r r':V->List V->Hp->VK->Prop} (h:MtM X id r) (m: ∀ x xs H Q,r' x xs H Q->r x xs H Q):MtM X id r':=fun pins s σ H x xs v us Q I rx rs q=>h pins s σ H x xs v us Q I rx rs (m _ _ _ _ q)
theorem SlR.imp {X:Cx} {r r':V->Option Int->Option Int->Hp->VK->Prop} (h:SlR X r) (m: ∀ x l u H Q,r' x l u H Q->r x l u H Q):SlR X r':=fun pins s σ H x v vl vu lo hi sl Q I rx hs pl pu q=>h pins s σ H x v vl vu lo hi sl Q I rx hs pl pu (m _ _ _ _ _ q)
theorem zqu.imp {X:Cx} {r r':zsT} (h:zqu X r) (m: ∀ o i v H Q,r' o i v H Q->r o i v H Q):zqu X r':=fun pins s σ H o i v ov iv u Q I ro ri rv q=>h pins s σ H o i v ov iv u Q I ro ri rv (m _ _ _ _ _ q)
theorem PI.imp {X:Cx} {tg iter:Expr} {t t':TI} (h:PI X tg iter t) (m: ∀ σ H Q,t' σ H Q->t σ H Q):PI X tg iter t':=fun pins s σ H Q I q=>h pins s σ H Q I (m _ _ _ q)
theorem PG.imp {X:Cx} {tg:Expr} {t t':TG} (h:PG X tg t) (m: ∀ v σ H Q,t' v σ H Q->t v σ H Q):PG X tg t':=fun pins s σ H v u Q I r q=>h pins s σ H v u Q I r (m _ _ _ _ q)
theorem PS.imp {X:Cx} {st:Stmt} {t t':TS} (h:PS X st t) (m: ∀ D σ H,t' D σ H->t D σ H):PS X st t':=fun pins s σ H D I q=>h pins s σ H D I (m _ _ _ q)
theorem PSs.imp {X:Cx} {st:List Stmt} {t t':TS} (h:PSs X st t) (m: ∀ D σ H,t' D σ H->t D σ H):PSs X st t':=fun pins s σ H D I q=>h pins s σ H D I (m _ _ _ q)
section
variable {X:Cx} {E:XE} {a b e:Expr} {es:List Expr} {pos:Pos} {fa fb:Sd->M D}
theorem te2 {K:W.Frag} {F:D->D->M D} {r:R2} (hr: ∀ x y H Q,zee K E F x y H Q->r x y H Q) (σ:St) (H:Hp) (Q:VK) (q:zhC K E (fun sd=>do let x<-fa sd;let y<-fb sd;F x y) σ H Q):tOp r (zhC K E fa) (zhC K E fb) σ H Q:=by
 obtain ⟨ι,h,sd,L,hh,q⟩:=q
 refine ⟨ι,h,sd,L,hh,Fin.bind q fun d1 h1 ι1 H1 e1 s1 hr1 q1 v r1=> ?_⟩
 refine ⟨ι1,h1,sd,L.step s1,hr1,Fin.bind q1 fun d2 h2 ι2 H2 e2 s2 hr2 q2 w r2=> ?_⟩
 exact hr _ _ _ _ ⟨ι2,h2,d1,d2,r1.step s2,r2,hr2,q2⟩
theorem ztt {op:Operator} {F:D->D->M D} (ho:OpR X (binaryOp op) (zee X.K E F)) (ha:SE X E a fa) (hb:SE X E b fb):SE X E (.BinOp a op b pos) (fun sd=>do let x<-fa sd;let y<-fb sd;F x y):=
 PE.imp (zt3 ho ha hb) (te2 fun _ _ _ _ q=>q)
theorem zs1 {op:CmpOp} {F:D->D->M D} (ho:OpR X (compareOp op) (zee X.K E F)) (ha:SE X E a fa) (hb:SE X E b fb) (hm:behindInMarks op b=false):SE X E (.Compare a [op] [b] pos) (fun sd=>do let x<-fa sd;let y<-fb sd;F x y):=
 PE.imp (zo5 ho ha hb hm) (te2 fun _ _ _ _ q=>q)
theorem ztK {F:D->D->M D} (ho:IxR X (zee X.K E F)) (ha:SE X E a fa) (hb:SE X E b fb) (hs:zgI b):SE X E (.Subscript a b pos) (fun sd=>do let x<-fa sd;let y<-fb sd;F x y):=
 PE.imp (zrx ho ha hb hs) (te2 fun _ _ _ _ q=>q)
noncomputable def zdp:D->M Bool
 | .bl b=>pure b
 | _=>M.bad
theorem zfq {K:W.Frag} {f:Sd->M D} (σ:St) (H:Hp) (Q:Bool->Hp->Prop) (q:zg7 K E (fun sd=>do let x<-f sd;zdp x) σ H Q):(zhC K E f) σ H fun x H1=> ∃ c,x= .bl c/\Q c H1:=by
 obtain ⟨ι,h,sd,L,hh,q⟩:=q
 refine ⟨ι,h,sd,L,hh,Fin.bind q fun d1 h1 ι1 H1 e1 s1 hr1 q2 v r1=> ?_⟩
 cases d1 with
 | bl b=>simp only [Rel] at r1;exact ⟨b,r1,Fin.out hr1 q2⟩
 | _=>exact qa0 q2
theorem zsy {op:CmpOp} {F:D->D->M D} (ho:OpR X (compareOp op) (zee X.K E F)) (ha:SE X E a fa) (hb:SE X E b fb) (hm:behindInMarks op b=false):
  ST X E (.Compare a [op] [b] pos) (fun sd=>do let z<-(do let x<-fa sd;let y<-fb sd;F x y);zdp z):=by
 refine PT.imp (zpK ho ha hb hm) fun σ H Q q=> ?_
 have q1:=zfq (f:=fun sd=>do let x<-fa sd;let y<-fb sd;F x y) σ H Q q
 exact te2 (fun _ _ _ _ q=>q) σ H _ q1
theorem zrL {f:Sd->M D} (h:SE X E e f) (he: ∀ whole,isTrue e X.env whole=(do let v<-whole;standAt e.pos;holding [v] (truthy v)):=by intro _;rfl):ST X E e (fun sd=>do let x<-f sd;zdp x):=
 PT.imp (zqL h he) fun σ H Q q=>zfq σ H Q q
theorem zrY {t:Sd->M Bool} (ha:ST X E a t):ST X E (.UnaryOp .Not a pos) (fun sd=>do let c<-t sd;pure (!c)):=by
 refine PT.imp (zr6 ha) fun σ H Q ⟨ι,h,sd,L,hh,q⟩=>⟨ι,h,sd,L,hh,Fin.bind q fun c h1 ι1 H1 e1 s1 hr1 q1=> ?_⟩
 exact Fin.out hr1 q1
theorem zp0 {t:Sd->M Bool} (ha:ST X E a t):PW X (.BoolOp .And [a] pos) (zg7 X.K E t):=pw_and1 ha
theorem zsp {t:Sd->M Bool} (ha:ST X E a t):PW X (.BoolOp .Or [a] pos) (zg7 X.K E t):=pw_or1 ha
theorem PW.imp {t t':TT} (h:PW X e t) (m: ∀ σ H Q,t' σ H Q->t σ H Q):PW X e t':=fun whole pins s σ H Q I q=>h whole pins s σ H Q I (m _ _ _ q)
theorem zq4 {rest:List Expr} {t u:Sd->M Bool} (ha:ST X E a t) (hb:PW X (.BoolOp .And (b::rest) pos) (zg7 X.K E u)):PW X (.BoolOp .And (a::b::rest) pos) (zg7 X.K E fun sd=>do let c<-t sd;if c=true then u sd else pure false):=by
 refine PW.imp (pw_and ha hb) fun σ H Q ⟨ι,h,sd,L,hh,q⟩=>⟨ι,h,sd,L,hh,Fin.bind q fun c h1 ι1 H1 e1 s1 hr1 q1=> ?_⟩
 cases c with
 | true=>exact zpd ⟨ι1,h1,sd,L.step s1,hr1,q1⟩
 | false=>exact zpM (Fin.out hr1 q1)
theorem ztL {rest:List Expr} {t u:Sd->M Bool} (ha:ST X E a t) (hb:PW X (.BoolOp .Or (b::rest) pos) (zg7 X.K E u)):PW X (.BoolOp .Or (a::b::rest) pos) (zg7 X.K E fun sd=>do let c<-t sd;if c=true then pure true else u sd):=by
 refine PW.imp (pw_or ha hb) fun σ H Q ⟨ι,h,sd,L,hh,q⟩=>⟨ι,h,sd,L,hh,Fin.bind q fun c h1 ι1 H1 e1 s1 hr1 q1=> ?_⟩
 cases c with
 | false=>exact zpM ⟨ι1,h1,sd,L.step s1,hr1,q1⟩
 | true=>exact zpd (Fin.out hr1 q1)
theorem zp8 {op:BoolOp} {vs:List Expr} {t:Sd->M Bool} (h:PW X (.BoolOp op vs pos) (zg7 X.K E t)):ST X E (.BoolOp op vs pos) t:=h.pt
theorem zr9 {op:BoolOp} (h:SE X E a fa):SE X E (.BoolOp op [a] pos) fa:=zqB h
theorem zr1 {rest:List Expr} (ha:SE X E a fa) (hb:SE X E (.BoolOp .And (b::rest) pos) fb):SE X E (.BoolOp .And (a::b::rest) pos) (fun sd=>do let c<-(do let x<-fa sd;zdp x);if c=true then fb sd else pure (.bl false)):=by
 refine PE.imp (zqY ha hb) fun σ H Q ⟨ι,h,sd,L,hh,q⟩=> ?_
 have q1:=zfq (K:=X.K) (E:=E) (f:=fa) σ H (fun c H1=>if c=true then zhC X.K E fb σ H1 Q else Q (.bl false) H1) ⟨ι,h,sd,L,hh,Fin.bind q fun c h1 ι1 H1 e1 s1 hr1 q1=> ?_⟩
 ·exact q1
 ·cases c with
  | true=>exact zpd ⟨ι1,h1,sd,L.step s1,hr1,q1⟩
  | false=>exact zpM (Fin.out hr1 q1 _ (by simp [Rel]))
theorem zt5 {rest:List Expr} (ha:SE X E a fa) (hb:SE X E (.BoolOp .Or (b::rest) pos) fb):SE X E (.BoolOp .Or (a::b::rest) pos) (fun sd=>do let c<-(do let x<-fa sd;zdp x);if c=true then pure (.bl true) else fb sd):=by
 refine PE.imp (ztG ha hb) fun σ H Q ⟨ι,h,sd,L,hh,q⟩=> ?_
 have q1:=zfq (K:=X.K) (E:=E) (f:=fa) σ H (fun c H1=>if c=true then Q (.bl true) H1 else zhC X.K E fb σ H1 Q) ⟨ι,h,sd,L,hh,Fin.bind q fun c h1 ι1 H1 e1 s1 hr1 q1=> ?_⟩
 ·exact q1
 ·cases c with
  | false=>exact zpM ⟨ι1,h1,sd,L.step s1,hr1,q1⟩
  | true=>exact zpd (Fin.out hr1 q1 _ (by simp [Rel]))
theorem zq5 (ha:SE X E a fa):SE X E (.UnaryOp .Not a pos) (fun sd=>do let c<-(do let x<-fa sd;zdp x);pure (.bl (!c))):=by
 refine PE.imp (zrw ha) fun σ H Q ⟨ι,h,sd,L,hh,q⟩=> ?_
 have q1:=zfq (K:=X.K) (E:=E) (f:=fa) σ H (fun c H1=>Q (.bl (!c)) H1) ⟨ι,h,sd,L,hh,Fin.bind q fun c h1 ι1 H1 e1 s1 hr1 q1=> ?_⟩
 ·exact q1
 ·exact Fin.out hr1 q1 _ (by simp [Rel])
noncomputable def zaf (i:Nat):Sd->M D:=fun sd=>match sd[i]? with
 | some (some d)=>pure d
 | _=>M.bad
theorem zq7 (i:Nat) {x:Str} (hN:X.N[i]? = some x) (hv:Vis X.env.scope x) (hd:(x==("__debug__":Str))=false:=by decide) (hcd:(x==("__classdict__":Str))=false:=by decide):SE X E (.Name x pos) (zaf i):=by
 refine PE.imp (zn1 hN hv hd hcd) fun σ H Q ⟨ι,h,sd,L,hh,q⟩=> ?_
 unfold zaf at q
 cases e:sd[i]? with
 | none=>rw [e] at q;exact qa0 q
 | some o=>
  rw [e] at q
  cases o with
  | none=>exact qa0 q
  | some d=>
   obtain ⟨v,e1,r⟩:=L.2 i d e
   exact ⟨v,e1,Fin.out hh q v r⟩
theorem zfe {K:W.Frag} {d:D} {v:V} (r: ∀ ι H,Rel K ι H d v) (σ:St) (H:Hp) (Q:VK) (q:zhC K E (fun _=>pure d) σ H Q):tC v σ H Q:=by
 obtain ⟨ι,h,sd,L,hh,q⟩:=q
 exact Fin.out hh q v (r _ _)
theorem zrV {i:Int} {j:Nat}:SE X E (.Constant (.int i) j pos) (fun _=>pure (.int i)):=PE.imp znY (zfe fun _ _=>by simp [Rel])
theorem zue {i:Bool} {j:Nat}:SE X E (.Constant (.bool i) j pos) (fun _=>pure (.bl i)):=PE.imp zq2 (zfe fun _ _=>by simp [Rel])
theorem zrh {j:Nat}:SE X E (.Constant .none j pos) (fun _=>pure .non):=PE.imp zrZ (zfe fun _ _=>by simp [Rel])
theorem zre {i:Str} {j:Nat}:SE X E (.Constant (.str i) j pos) (fun _=>pure (.str i)):=PE.imp zn0 (zfe fun _ _=>by simp [Rel])
theorem zsP:SA X E [] (fun _=>pure []):=PA.imp zcs fun σ H Q ⟨ι,h,sd,L,hh,q⟩=>Fin.out hh q [] zat.nil
theorem zpk {fs:Sd->M (List D)} (ha:SE X E e fa) (hr:SA X E es fs) (hs:starEach (e::es) X.env=(false,eval e X.env)::starEach es X.env:=by rfl):SA X E (e::es) (fun sd=>do let x<-fa sd;let r<-fs sd;pure (x::r)):=by
 refine PA.imp (zbs ha hr hs) fun σ H Q ⟨ι,h,sd,L,hh,q⟩=>⟨ι,h,sd,L,hh,Fin.bind q fun d h1 ι1 H1 e1 s1 hr1 q1 v rv=> ?_⟩
 refine ⟨ι1,h1,sd,L.step s1,hr1,Fin.bind q1 fun ds h2 ι2 H2 e2 s2 hr2 q2 vs rvs=> ?_⟩
 exact Fin.out hr2 q2 _ (zat.cons (rv.step s2) rvs)
end
theorem zbg.nin {K:W.Frag} {ι:Io} {H:Hp} {h:Hh} (hr:zbg K ι H h) {p:Addr} (hp:H p=none): ¬ι.Has p:=fun z=>by
 rcases z with z | z
 ·obtain ⟨n,hn⟩:=List.mem_iff_getElem?.mp z
  have hl:n<h.length:=by rw [hr.len];exact (qac.mp hn).1
  obtain ⟨o,e,_⟩:=hr.at_ n p h[n] hn (by simp [hl])
  rw [hp] at e
  cases e
 ·obtain ⟨⟨o,e⟩,_⟩:=hr.hidt p z
  rw [hp] at e
  cases e
theorem zbg.laidS {K:W.Frag} {ι:Io} {H:Hp} {h:Hh} (hr:zbg K ι H h) {p:Addr} {o:HO} (hp:H p=none):zch ι H ι (upd H p o):=
 ⟨fun _ _ h=> .inl h,fun _ h=> .inl h,rfl,fun a ha=>zaF fun z=>hr.nin hp (.inr (z▸ha)),fun b o' h _=>by rw [zaF (zaW h hp)];exact h⟩
theorem zbg.laid {K:W.Frag} {ι:Io} {H:Hp} {h:Hh} {p:Addr} {o:HO} (hr:zbg K ι H h) (hp:H p=none):zbg K ι (upd H p o) h:=
 ⟨hr.len,hr.inj,fun n a c hn hc=>by
   obtain ⟨o',e2,e3⟩:=hr.at_ n a c hn hc
   exact ⟨o',by rw [zaF (zaW e2 hp)];exact e2,e3.pass (hr.laidS hp).pass⟩,hr.dead,fun a ha=>⟨by rw [zaF (show a≠p from fun z=>hr.nin hp (.inr (z▸ha)))];exact (hr.hidt a ha).1,(hr.hidt a ha).2⟩⟩
noncomputable def fits (n:Nat):M Unit:=if n<=sizeLine then pure () else M.bad
theorem Fin.fits {α:Type} {K:W.Frag} {E:XE} {ι:Io} {H:Hp} {n:Nat} {f:M α} {h:Hh} {P:α->Io->Hp->Prop} (q:Fin K E ι H ((do L3.fits n;f) h) P):n<=sizeLine/\Fin K E ι H (f h) P:=by
 have q':Fin K E ι H (M.bind (L3.fits n) (fun _=>f) h) P:=q
 unfold M.bind L3.fits at q'
 by_cases hn:n<=sizeLine
 ·rw [qa4 hn] at q'
  exact ⟨hn,q'⟩
 ·rw [qa5 hn] at q'
  exact qa0 q'
section
variable {X:Cx} {E:XE} {es:List Expr} {pos:Pos} {fs:Sd->M (List D)}
theorem zoh {K:W.Frag} {ι:Io} {H:Hp} {h:Hh} {ds:List D} {vs:List V} {Q:VK} (hr:zbg K ι H h) (rl:zat K ι H ds vs) (q:Fin K E ι H ((pure (.tup ds):M D) h) fun d ι' H'=> ∀ v,Rel K ι' H' d v->Q v H') {p:Addr} (hp:H p=none):Q (.ref p) (upd H p (.tup vs)):=
 q ι _ (hr.laidS hp) (hr.laid hp) _ (by
   simp only [Rel]
   exact ⟨p,vs,rfl,⟨zaS,hr.nin hp⟩,rl.step (hr.laidS hp)⟩)
theorem zqq {K:W.Frag} {ι:Io} {H:Hp} {h:Hh} {ds:List D} {vs:List V} {Q:VK} (hr:zbg K ι H h) (rl:zat K ι H ds vs) (q:Fin K E ι H ((pure (.lst ds):M D) h) fun d ι' H'=> ∀ v,Rel K ι' H' d v->Q v H') {p:Addr} (hp:H p=none):Q (.ref p) (upd H p (.lst vs)):=
 q ι _ (hr.laidS hp) (hr.laid hp) _ (by
   simp only [Rel]
   exact ⟨p,vs,rfl,⟨zaS,hr.nin hp⟩,rl.step (hr.laidS hp)⟩)
noncomputable def zd5 (ds:List D):M D:=fun h=> .ok (.cel h.length) (h++[.lst ds])
theorem ztT {K:W.Frag} {ι:Io} {H:Hp} {h:Hh} {c0:C} {o0:HO} {Q:VK} (hr:zbg K ι H h) (co:CO K ι H c0 o0) (q:Fin K E ι H (.ok (.cel h.length) (h++[c0])) fun d ι' H'=> ∀ v,Rel K ι' H' d v->Q v H') {p:Addr} (hp:H p=none):Q (.ref p) (upd H p o0):=by
 have hlen:=hr.len
 have nh:=hr.nin hp
 have st:zch ι H ⟨ι.c++[some p],ι.x⟩ (upd H p o0):=by
  refine ⟨fun n o h=> .inl ?_,fun a h=> ?_,rfl,fun a ha=>zaF fun z=>nh (.inr (z▸ha)),fun b o' h _=>by rw [zaF (zaW h hp)];exact h⟩
  ·show (ι.c++[some p])[n]? = _
   rw [qad (qac.mp h).1];exact h
  ·rcases qaK.mp h with h | h
   ·exact .inl h
   ·simp at h;subst h;exact .inr hp
 have at_: ∀ (n:Nat) (a:Addr),(ι.c++[some p])[n]? = some (some a)->(ι.c[n]? = some (some a))\/(n=ι.c.length/\a=p):=fun n a h=>by
  by_cases hl:n<ι.c.length
  ·rw [qad hl] at h;exact .inl h
  ·rw [qaa (by omega)] at h
   have:n - ι.c.length=0:=by
    cases z:n - ι.c.length with
    | zero=>rfl
    | succ k=>rw [z] at h;simp at h
   rw [this] at h
   simp at h
   exact .inr ⟨by omega,h.symm⟩
 refine q _ _ st ⟨?_,fun m n a h1 h2=> ?_,fun n a c h1 h2=> ?_,fun n h1=> ?_,fun a ha=>⟨?_,fun z=> ?_⟩⟩ _ ?_
 ·show (h++[c0]).length=(ι.c++[some p]).length
  rw [qav,qav,hlen];rfl
 ·rcases at_ m a h1 with z1 | ⟨z1,z1'⟩<;>rcases at_ n a h2 with z2 | ⟨z2,z2'⟩
  ·exact hr.inj m n a z1 z2
  ·subst z2';exact absurd (.inl (List.mem_of_getElem? z1)) nh
  ·subst z1';exact absurd (.inl (List.mem_of_getElem? z2)) nh
  ·rw [z1,z2]
 ·rcases at_ n a h1 with z1 | ⟨z1,z1'⟩
  ·rw [qad (by rw [hlen];exact (qac.mp z1).1)] at h2
   obtain ⟨o',e2,e3⟩:=hr.at_ n a c z1 h2
   exact ⟨o',by rw [zaF (zaW e2 hp)];exact e2,e3.pass st.pass⟩
  ·subst z1 z1'
   rw [<- hlen,qaa (qaV _)] at h2
   simp at h2
   subst h2
   exact ⟨o0,zaS,co.pass st.pass⟩
 ·have h1:(ι.c++[some p])[n]? = some none:=h1
  by_cases hl:n<ι.c.length
  ·rw [qad hl] at h1
   rw [qad (by rw [hlen];exact hl)]
   exact hr.dead n h1
  ·rw [qaa (by omega)] at h1
   cases z:n - ι.c.length with
   | zero=>rw [z] at h1;simp at h1
   | succ k=>rw [z] at h1;simp at h1
 ·rw [zaF (show a≠p from fun z=>nh (.inr (z▸ha)))]
  exact (hr.hidt a ha).1
 ·rcases qaK.mp z with z | z
  ·exact (hr.hidt a ha).2 z
  ·simp at z;subst z;exact nh (.inr ha)
 ·simp only [Rel]
  refine ⟨p,rfl,.inl ?_⟩
  show (ι.c++[some p])[h.length]? = _
  rw [hlen,qaa (qaV _)]
  simp
theorem zux {K:W.Frag} {ι:Io} {H:Hp} {h:Hh} {ds:List D} {vs:List V} {Q:VK} (hr:zbg K ι H h) (rl:zat K ι H ds vs) (q:Fin K E ι H (zd5 ds h) fun d ι' H'=> ∀ v,Rel K ι' H' d v->Q v H') {p:Addr} (hp:H p=none):Q (.ref p) (upd H p (.lst vs)):=
 ztT hr (c0:= .lst ds) ⟨vs,rfl,rl⟩ q hp
theorem zsB {x1} (h:SA X E es fs):SE X E (.Tuple es x1 pos) (fun sd=>do let ds<-fs sd;fits ds.length;pure (.tup ds)):=by
 refine PE.imp (zsE h) fun σ H Q ⟨ι,h,sd,L,hh,q⟩=>⟨ι,h,sd,L,hh,Fin.bind q fun ds h1 ι1 H1 e1 s1 hr1 q1 vs rvs=> ?_⟩
 obtain ⟨z,q2⟩:=Fin.fits q1
 exact ⟨by rw [<- rvs.length];exact z,fun p hp=>zoh hr1 rvs q2 hp⟩
theorem zsL (h:SA X E es fs):SE X E (.List es pos) (fun sd=>do let ds<-fs sd;fits ds.length;pure (.lst ds)):=by
 refine PE.imp (zlr h) fun σ H Q ⟨ι,h,sd,L,hh,q⟩=>⟨ι,h,sd,L,hh,Fin.bind q fun ds h1 ι1 H1 e1 s1 hr1 q1 vs rvs=> ?_⟩
 obtain ⟨z,q2⟩:=Fin.fits q1
 exact ⟨by rw [<- rvs.length];exact z,fun p hp=>zqq hr1 rvs q2 hp⟩
theorem zpy (h:SA X E es fs):SE X E (.List es pos) (fun sd=>do let ds<-fs sd;fits ds.length;zd5 ds):=by
 refine PE.imp (zlr h) fun σ H Q ⟨ι,h,sd,L,hh,q⟩=>⟨ι,h,sd,L,hh,Fin.bind q fun ds h1 ι1 H1 e1 s1 hr1 q1 vs rvs=> ?_⟩
 obtain ⟨z,q2⟩:=Fin.fits q1
 exact ⟨by rw [<- rvs.length];exact z,fun p hp=>zux hr1 rvs q2 hp⟩
end
inductive Out where
 | nx (sd:Sd) | rt (d:D) | bk (sd:Sd) | ct (sd:Sd)
noncomputable def zha (K:W.Frag) (D0:zoe):Out->Io->Hp->Prop
 | .nx sd',ι',H'=> ∀ σ',zc1 K ι' H' sd' σ'->D0.nx σ' H'
 | .rt d,ι',H'=> ∀ v,Rel K ι' H' d v->D0.rt v H'
 | .bk sd',ι',H'=> ∀ σ',zc1 K ι' H' sd' σ'->D0.bk σ' H'
 | .ct sd',ι',H'=> ∀ σ',zc1 K ι' H' sd' σ'->D0.ct σ' H'
noncomputable def zun (K:W.Frag) (E:XE) (G:Sd->M Out):TS:=fun D0 σ H=> ∃ ι h sd,zc1 K ι H sd σ/\zbg K ι H h/\Fin K E ι H (G sd h) (zha K D0)
noncomputable abbrev SS (X:Cx) (E:XE) (st:Stmt) (G:Sd->M Out):Prop:=PS X st (zun X.K E G)
noncomputable abbrev SSs (X:Cx) (E:XE) (st:List Stmt) (G:Sd->M Out):Prop:=PSs X st (zun X.K E G)
noncomputable def andThen (o:Out) (g:Sd->M Out):M Out:=match o with
 | .nx sd=>g sd
 | o=>pure o
section
variable {X:Cx} {E:XE} {pos:Pos}
theorem zsU:SSs X E [] (fun sd=>pure (.nx sd)):=PSs.imp zoM fun D0 σ H ⟨ι,h,sd,L,hh,q⟩=>Fin.out hh q σ L
theorem zpx {st:Stmt} {rest:List Stmt} {g g':Sd->M Out} (h1:SS X E st g) (h2:SSs X E rest g'):SSs X E (st::rest) (fun sd=>do let o<-g sd;andThen o g'):=by
 refine PSs.imp (zmW h1 h2) fun D0 σ H ⟨ι,h,sd,L,hh,q⟩=>⟨ι,h,sd,L,hh,Fin.bind q fun o h1 ι1 H1 e1 s1 hr1 q1=> ?_⟩
 cases o with
 | nx sd'=>exact fun σ' L'=>⟨ι1,h1,sd',L',hr1,q1⟩
 | rt d=>exact Fin.out (E:=E) (P:=zha X.K D0) hr1 q1
 | bk sd'=>exact Fin.out (E:=E) (P:=zha X.K D0) hr1 q1
 | ct sd'=>exact Fin.out (E:=E) (P:=zha X.K D0) hr1 q1
theorem zrX {st:Stmt} {g:Sd->M Out} (h1:SS X E st g):SSs X E [st] g:=zpw h1
theorem zsl {e:Expr} {f:Sd->M D} (he:SE X E e f) (hs:swapsWith e none pos.line X.env=pure false:=by rfl):SS X E (.Expr e pos) (fun sd=>do let _<-f sd;pure (.nx sd)):=by
 refine PS.imp (zpW he hs) fun D0 σ H ⟨ι,h,sd,L,hh,q⟩=>⟨ι,h,sd,L,hh,Fin.bind q fun d h1 ι1 H1 e1 s1 hr1 q1 v rv=> ?_⟩
 exact Fin.out hr1 q1 σ (L.step s1)
theorem ztb {e:Expr} {f:Sd->M D} (he:SE X E e f):SS X E (.Return (some e) pos) (fun sd=>do let d<-f sd;pure (.rt d)):=by
 refine PS.imp (zqO he) fun D0 σ H ⟨ι,h,sd,L,hh,q⟩=>⟨ι,h,sd,L,hh,Fin.bind q fun d h1 ι1 H1 e1 s1 hr1 q1 v rv=> ?_⟩
 exact Fin.out hr1 q1 v rv
theorem zu6 {c:Expr} {a b:List Stmt} {t:Sd->M Bool} {g g':Sd->M Out} (hc:ST X E c t) (ha:SSs X E a g) (hb:SSs X E b g'):SS X E (.If c a b pos) (fun sd=>do let c<-t sd;if c=true then g sd else g' sd):=by
 refine PS.imp (zud hc ha hb) fun D0 σ H ⟨ι,h,sd,L,hh,q⟩=>⟨ι,h,sd,L,hh,Fin.bind q fun c h1 ι1 H1 e1 s1 hr1 q1=> ?_⟩
 cases c with
 | true=>exact zpd ⟨ι1,h1,sd,L.step s1,hr1,q1⟩
 | false=>exact zpM ⟨ι1,h1,sd,L.step s1,hr1,q1⟩
noncomputable def ztD (K:W.Frag) (E:XE) (g:D->Sd->M Sd):TG:=fun v σ H Q=> ∃ ι h sd d,zc1 K ι H sd σ/\zbg K ι H h/\Rel K ι H d v/\Fin K E ι H (g d sd h) fun sd' ι' H'=> ∀ σ',zc1 K ι' H' sd' σ'->Q σ' H'
noncomputable def zt9 (K:W.Frag) (E:XE) (g:List D->Sd->M Sd):TGs:=fun vs σ H Q=> ∃ ι h sd ds,zc1 K ι H sd σ/\zbg K ι H h/\zat K ι H ds vs/\Fin K E ι H (g ds sd h) fun sd' ι' H'=> ∀ σ',zc1 K ι' H' sd' σ'->Q σ' H'
noncomputable abbrev SG (X:Cx) (E:XE) (tg:Expr) (g:D->Sd->M Sd):Prop:=PG X tg (ztD X.K E g)
noncomputable abbrev SGs (X:Cx) (E:XE) (tgs:List Expr) (g:List D->Sd->M Sd):Prop:=PGs X tgs (zt9 X.K E g)
noncomputable def zaw (i:Nat):D->Sd->M Sd:=fun d sd=>pure (sd.set i (some d))
theorem zpE (i:Nat) {x:Str} (hN:X.N.Nodup) (hi:X.N[i]? = some x) (hx:Loc X.env.scope x) (hf:X.fn x=true\/X.env.scope.names.lookup x=some .local):SG X E (.Name x pos) (zaw i):=by
 refine PG.imp (zpG hN hi hx hf) fun v σ H Q ⟨ι,h,sd,d,L,hh,r,q⟩=> ?_
 exact Fin.out hh q _ (L.set r i)
theorem PGs.imp {tgs:List Expr} {t t':TGs} (h:PGs X tgs t) (m: ∀ v σ H Q,t' v σ H Q->t v σ H Q):PGs X tgs t':=fun pins s σ H v u Q I r q=>h pins s σ H v u Q I r (m _ _ _ _ q)
noncomputable def zbP:List D->Sd->M Sd:=fun ds sd=>match ds with | []=>pure sd | _=>M.bad
noncomputable def zau (g:D->Sd->M Sd) (gs:List D->Sd->M Sd):List D->Sd->M Sd:=fun ds sd=>match ds with
 | []=>M.bad
 | d::r=>do let sd1<-g d sd;gs r sd1
theorem zqa:SGs X E [] zbP:=by
 refine PGs.imp zqb fun v σ H Q ⟨ι,h,sd,ds,L,hh,r,q⟩=> ?_
 cases ds with
 | nil=>simp only [zat] at r;exact ⟨r,Fin.out hh q _ L⟩
 | cons d r=>exact qa0 q
theorem zmx {e:Expr} {es:List Expr} {g:D->Sd->M Sd} {gs:List D->Sd->M Sd} (h1:SG X E e g) (h2:SGs X E es gs)
  (hs:(assignEach (e::es) X.env).map (·.2)=assign e X.env::(assignEach es X.env).map (·.2):=by rfl):SGs X E (e::es) (zau g gs):=by
 refine PGs.imp (znp h1 h2 hs) fun v σ H Q ⟨ι,h,sd,ds,L,hh,r,q⟩=> ?_
 cases ds with
 | nil=>exact qa0 q
 | cons d ds=>
  simp only [zat] at r
  obtain ⟨v1,vr,rfl,r1,r2⟩:=r
  refine ⟨v1,vr,rfl,ι,h,sd,d,L,hh,r1,Fin.bind q fun sd1 h1 ι1 H1 e1 s1 hr1 q1 σ1 L1=> ?_⟩
  exact ⟨ι1,h1,sd1,ds,L1,hr1,r2.step s1,q1⟩
noncomputable def zbO (n:Nat) (gs:List D->Sd->M Sd):D->Sd->M Sd:=fun d sd=>match d with
 | .tup ds=>if ds.length=n then gs ds sd else M.bad
 | _=>M.bad
theorem zds {K:W.Frag} {ι:Io} {H:Hp} {ds:List D} {v:V} (h:Rel K ι H (.tup ds) v): ∃ a vs,v= .ref a/\SqT K H a vs/\zat K ι H ds vs:=by
 simp only [Rel] at h
 obtain ⟨a,vs,e,h1,h2⟩:=h
 exact ⟨a,vs,e,.inl (.inl h1.1),h2⟩
theorem zkY {K:W.Frag} {ι:Io} {H:Hp} {ds:List D} {v:V} (h:Rel K ι H (.scr ds) v): ∃ a vs,v= .ref a/\SqL K H a vs/\zat K ι H ds vs:=by
 simp only [Rel] at h
 obtain ⟨a,vs,e,h1,h2⟩:=h
 refine ⟨a,vs,e,?_,h2⟩
 rcases h1 with h1 | h1
 ·exact .inl h1.1
 ·rcases h1 with h1 | h1
  ·rcases h1 with h1 | ⟨o,h1⟩<;>cases h1
  ·exact .inr h1
theorem zfM {K:W.Frag} {ι:Io} {H:Hp} {ds:List D} {v:V} (h:Rel K ι H (.lst ds) v): ∃ a vs,v= .ref a/\SqL K H a vs/\zat K ι H ds vs:=by
 simp only [Rel] at h
 obtain ⟨a,vs,e,h1,h2⟩:=h
 exact ⟨a,vs,e,.inl (.inl h1.1),h2⟩
theorem zqG {es:List Expr} {k:Nat} {gs:List D->Sd->M Sd} {n:Nat} (hc:X.calm=true) (h:SGs X E es gs)
  (hn:(assignEach es X.env).length=n:=by rfl) (hst:(assignEach es X.env).findIdx? (·.1)=none:=by rfl):SG X E (.Tuple es k pos) (zbO n gs):=by
 refine PG.imp (zsZ hc h hn hst) fun v σ H Q ⟨ι,h,sd,d,L,hh,r,q⟩=> ?_
 cases d with
 | tup ds=>
  obtain ⟨a,vs,e,h1,h2⟩:=zds r
  have q:Fin X.K E ι H ((if ds.length=n then gs ds sd else M.bad) h) _:=q
  by_cases hl:ds.length=n
  ·rw [qa4 hl] at q
   exact ⟨a,vs,e,h1,by rw [<- h2.length];exact hl,ι,h,sd,ds,L,hh,h2,q⟩
  ·rw [qa5 hl] at q
   exact qa0 q
 | _=>exact qa0 q
theorem zui {tg e:Expr} {f:Sd->M D} {g:D->Sd->M Sd} (he:SE X E e f) (hg:SG X E tg g) (hs:swapsWithSole [tg] e pos.line X.env=pure false:=by rfl) (hw:swappedStores [tg] e X.env=pure none:=by rfl)
  (h1:(assignEach [tg] X.env).map (·.2)=[assign tg X.env]:=by rfl):SS X E (.Assign [tg] e pos) (fun sd=>do let d<-f sd;let sd'<-g d sd;pure (.nx sd')):=by
 refine PS.imp (zr7 he hg hs hw h1) fun D0 σ H ⟨ι,h,sd,L,hh,q⟩=>⟨ι,h,sd,L,hh,Fin.bind q fun d h1 ι1 H1 e1 s1 hr1 q1 v rv=> ?_⟩
 exact ⟨ι1,h1,sd,d,L.step s1,hr1,rv,Fin.bind q1 fun sd' h2 ι2 H2 e2 s2 hr2 q2=>Fin.out hr2 q2⟩
theorem ztW (i:Nat) {x:Str} {e:Expr} {f:Sd->M D} {pos':Pos} (hN:X.N.Nodup) (hi:X.N[i]? = some x) (hx:Loc X.env.scope x) (hf:X.fn x=true\/X.env.scope.names.lookup x=some .local) (he:SE X E e f) (hs:swapsWith e (some (.Name x pos')) pos.line X.env=pure false:=by rfl):
  SS X E (.Assign [.Name x pos'] e pos) (fun sd=>do let d<-f sd;pure (.nx (sd.set i (some d)))):=by
 refine PS.imp (zqv hN hi hx he hs hf) fun D0 σ H ⟨ι,h,sd,L,hh,q⟩=>⟨ι,h,sd,L,hh,Fin.bind q fun d h1 ι1 H1 e1 s1 hr1 q1 v rv=> ?_⟩
 exact Fin.out hr1 q1 _ ((L.step s1).set rv i)
def zsS (H H2:Hp):Prop:=H2=H\/ ∃ q vs,H q=none/\H2=upd H q (.tup vs)
theorem zsS.step {K:W.Frag} {ι:Io} {H H2:Hp} {h:Hh} (g:zsS H H2) (hr:zbg K ι H h):zch ι H ι H2/\zbg K ι H2 h:=by
 rcases g with e | ⟨q,vs,hq,e⟩
 ·subst e;exact ⟨zch.refl _ _,hr⟩
 ·subst e;exact ⟨hr.laidS hq,hr.laid hq⟩
structure zqh (K:W.Frag) (ι:Io) (H:Hp) (J:It) (ds:List D):Prop where
 go: ∀ ι' H' (i:Nat),Pass ι H ι' H'->i<ds.length->J.go i H'
 yld: ∀ ι' H' h (i:Nat) x H2,Pass ι H ι' H'->zbg K ι' H' h->i<ds.length->J.yld i H' x H2->zsS H' H2/\ ∃ d,ds[i]? = some d/\Rel K ι' H2 d x
 stop: ∀ ι' H',Pass ι H ι' H'->J.stop ds.length H'
noncomputable def zuu (K:W.Frag) (E:XE) (f:Sd->M (List D)):TI:=fun σ H Q=> ∃ ι h sd,zc1 K ι H sd σ/\zbg K ι H h/\Fin K E ι H (f sd h) fun ds ι' H'=> ∀ J,zqh K ι' H' J ds->Q J H'
noncomputable abbrev SI (X:Cx) (E:XE) (tg iter:Expr) (f:Sd->M (List D)):Prop:=PI X tg iter (zuu X.K E f)
noncomputable def zfU:D->M (List D)
 | .tup ds=>pure ds
 | .lst ds=>pure ds
 | _=>M.bad
theorem zno {K:W.Frag} {ι:Io} {H:Hp} {a:Addr} {vs:List V} {ds:List D} (h: ∀ ι' H',Pass ι H ι' H'->SqT K H' a vs) (rl:zat K ι H ds vs):zqh K ι H (Itt K a) ds where
 go:=fun ι' H' i s hi=>⟨vs,vs[i]'(by rw [<- rl.length];exact hi),h ι' H' s,by simp⟩
 yld:=fun ι' H' _ i x H2 s _ hi ⟨e,y⟩=>by
  subst e
  have hx:=y vs (h ι' _ s)
  obtain ⟨d,e1,e2⟩:=rl.getV hx
  exact ⟨.inl rfl,d,e1,e2.pass s⟩
 stop:=fun ι' H' s=>⟨vs,h ι' H' s,by rw [rl.length];exact qaV _⟩
theorem znb {K:W.Frag} {ι:Io} {H:Hp} {a:Addr} {vs:List V} {ds:List D} (h: ∀ ι' H',Pass ι H ι' H'->SqL K H' a vs) (rl:zat K ι H ds vs):zqh K ι H (Itl K a) ds where
 go:=fun ι' H' i s hi=>⟨vs,vs[i]'(by rw [<- rl.length];exact hi),h ι' H' s,by simp⟩
 yld:=fun ι' H' _ i x H2 s _ hi ⟨e,y⟩=>by
  subst e
  have hx:=y vs (h ι' _ s)
  obtain ⟨d,e1,e2⟩:=rl.getV hx
  exact ⟨.inl rfl,d,e1,e2.pass s⟩
 stop:=fun ι' H' s=>⟨vs,h ι' H' s,by rw [rl.length];exact qaV _⟩
theorem Pass.refl (ι:Io) (H:Hp):Pass ι H ι H:=(zch.refl ι H).pass
theorem zmc {K:W.Frag} {ι:Io} {H:Hp} {ds:List D} {v:V} (h:Rel K ι H (.tup ds) v): ∃ a vs,v= .ref a/\(∀ ι' H',Pass ι H ι' H'->SqT K H' a vs)/\zat K ι H ds vs:=by
 simp only [Rel] at h
 obtain ⟨a,vs,e,h1,h2⟩:=h
 exact ⟨a,vs,e,fun ι' H' s=> .inl (.inl (s.keep _ _ h1.1 h1.2).1),h2⟩
theorem zmf {K:W.Frag} {ι:Io} {H:Hp} {ds:List D} {v:V} (h:Rel K ι H (.lst ds) v): ∃ a vs,v= .ref a/\(∀ ι' H',Pass ι H ι' H'->SqL K H' a vs)/\zat K ι H ds vs:=by
 simp only [Rel] at h
 obtain ⟨a,vs,e,h1,h2⟩:=h
 exact ⟨a,vs,e,fun ι' H' s=> .inl (.inl (s.keep _ _ h1.1 h1.2).1),h2⟩
end
end L3
namespace L2
open PySem PySem.Spec PyProof.Rows
noncomputable def zuQ (K:W.Frag) (tl:TE):TI:=fun σ H R=>tl σ H fun x H1=> ∃ a,x= .ref a/\(((∃ xs,SqL K H1 a xs)/\R (Itl K a) H1)\/((∃ xs,SqT K H1 a xs)/\R (Itt K a) H1))
theorem zsW {X:Cx} {tg:Expr} {l:Expr} {tl:TE} (hl:PE X l tl):PI X tg l (zuQ X.K tl):=by
 intro pins s σ H R I h
 refine thn (hl pins s σ H _ I h) fun v s1 ⟨x,H1,I1,r1,q1⟩=> ?_
 obtain ⟨a,e,⟨⟨xs,hq⟩,q⟩ | ⟨⟨xs,hq⟩,q⟩⟩:=q1
 ·subst e
  cases r1
  obtain ⟨its,rv,p,hz⟩:=I1.list hq
  refine wpAny_pyIter_list p.isList ?_
  refine ⟨s1.heap.objs.size,[s1.heap.objs.size],_,_,H1,rfl,I1.kept (t':=s1.toks) fun b o e=>qag _ e,zkG a _,⟨_,qar _ rfl,rfl,rfl⟩,fun b hb=> ?_,q⟩
  have e:b=s1.heap.objs.size:=by simpa using hb
  subst e
  exact I1.fpOk (qaV _) (I1.hok.fresh (qaV _))
 ·subst e
  cases r1
  obtain ⟨its,rv,p,hz⟩:=I1.tuple hq
  refine wpAny_pyIter_tuple (show s1.heap.IsTuple a its.toArray from p) ?_
  refine ⟨s1.heap.objs.size,[s1.heap.objs.size],_,_,H1,rfl,I1.kept (t':=s1.toks) fun b o e=>qag _ e,zjM a _,⟨_,qar _ rfl,rfl,rfl⟩,fun b hb=> ?_,q⟩
  have e:b=s1.heap.objs.size:=by simpa using hb
  subst e
  exact I1.fpOk (qaV _) (I1.hok.fresh (qaV _))
end L2
namespace L3
open PySem PySem.Spec PyProof.Rows L2
section
variable {X:Cx} {E:XE} {pos:Pos}
theorem zso {tg e:Expr} {f:Sd->M D} (he:SE X E e f):SI X E tg e (fun sd=>do let d<-f sd;zfU d):=by
 refine PI.imp (zsW he) fun σ H Q ⟨ι,h,sd,L,hh,q⟩=>⟨ι,h,sd,L,hh,Fin.bind q fun d h1 ι1 H1 e1 s1 hr1 q1 v rv=> ?_⟩
 cases d with
 | lst ds=>
  obtain ⟨a,vs,e,h1',h2⟩:=zmf rv
  exact ⟨a,e,.inl ⟨⟨vs,h1' _ _ (Pass.refl _ _)⟩,Fin.out hr1 q1 _ (znb h1' h2)⟩⟩
 | tup ds=>
  obtain ⟨a,vs,e,h1',h2⟩:=zmc rv
  exact ⟨a,e,.inr ⟨⟨vs,h1' _ _ (Pass.refl _ _)⟩,Fin.out hr1 q1 _ (zno h1' h2)⟩⟩
 | _=>exact qa0 q1
noncomputable def ze6 (lo:Int) (n:Nat):List D:=(List.range n).map fun (k:Nat)=>D.int (lo+(k:Int))
theorem zmy {K:W.Frag} {ι:Io} {H:Hp} {lo:Int} {n:Nat}:zqh K ι H (Itr lo n) (ze6 lo n) where
 go:=fun ι' H' i s hi=>by show i<n;simpa [ze6] using hi
 yld:=fun ι' H' _ i x H2 s _ hi ⟨e,y⟩=>by
  subst e y
  have hi:i<n:=by simpa [ze6] using hi
  refine ⟨.inl rfl,.int (lo+i),?_,by simp [Rel]⟩
  simp [ze6,hi]
 stop:=fun ι' H' s=>by
  show n<=(ze6 lo n).length
  simp [ze6]
noncomputable def zd9 (j:Int):Bool:=decide (-(2^62)<=j) && decide (j<2^62)
noncomputable def zlj:List D->M (List D)
 | [.int j]=>if zd9 j=true then pure (ze6 0 j.toNat) else M.bad
 | _=>M.bad
theorem zfW {j:Int} (h:zd9 j=true): -(2^62)<=j/\j<2^62:=by
 unfold zd9 at h
 simpa using h
theorem zpf {tg a:Expr} {p:Pos} {fs:Sd->M (List D)} (hg:Gl X "range") (hm:X.mg "range"=none) (ha:SA X E [a] fs) (hs:starEach [a] X.env=[(false,eval a X.env)]:=by rfl):
  SI X E tg (.Call (.Name "range" p) [a] [] pos) (fun sd=>do let ds<-fs sd;zlj ds):=by
 refine PI.imp (zlI hg hm ha hs) fun σ H Q ⟨ι,h,sd,L,hh,q⟩=>⟨ι,h,sd,L,hh,Fin.bind q fun ds h1 ι1 H1 e1 s1 hr1 q1 vs rv=> ?_⟩
 match ds,rv,q1 with
 | [.int j],rv,q1=>
  simp only [zat,Rel] at rv
  obtain ⟨v,r,rfl,rfl,rfl⟩:=rv
  have q1:Fin X.K E ι1 H1 ((if zd9 j=true then (pure (ze6 0 j.toNat):M (List D)) else M.bad) h1) _:=q1
  by_cases hj:zd9 j=true
  ·rw [qa4 hj] at q1
   exact ⟨j,rfl,(zfW hj).1,(zfW hj).2,Fin.out hr1 q1 _ zmy⟩
  ·rw [qa5 hj] at q1
   exact qa0 q1
 | [],_,q1=>exact qa0 q1
 | .non::_,_,q1=>exact qa0 q1
 | .bl _::_,_,q1=>exact qa0 q1
 | .str _::_,_,q1=>exact qa0 q1
 | .tup _::_,_,q1=>exact qa0 q1
 | .lst _::_,_,q1=>exact qa0 q1
 | .cel _::_,_,q1=>exact qa0 q1
 | .set _::_,_,q1=>exact qa0 q1
 | .dct::_,_,q1=>exact qa0 q1
 | .fn _::_,_,q1=>exact qa0 q1
 | .scr _::_,_,q1=>exact qa0 q1
 | .exn _::_,_,q1=>exact qa0 q1
 | .int _::_::_,_,q1=>exact qa0 q1
noncomputable def zbc (body:D->Sd->M Out):List D->Sd->M Out
 | [],sd=>pure (.nx sd)
 | x::r,sd=>do
  let o<-body x sd
  match o with
  | .nx sd'=>zbc body r sd'
  | .ct sd'=>zbc body r sd'
  | .bk sd'=>pure (.nx sd')
  | .rt d=>pure (.rt d)
theorem zt7 {tg iter:Expr} {body:List Stmt} {fi:Sd->M (List D)} {g:D->Sd->M Sd} {gb:Sd->M Out} (hc:X.calm=true) (hp:PassesOwn (model X.prog X.w) X.A X.env X.xe) (hi:SI X E tg iter fi) (hg:SG X E tg g) (hb:SSs X E body gb)
  (hs: ∀ x,foldedSetIterable iter X.env x=pure x:=by intro _;rfl):SS X E (.For tg iter body [] pos) (fun sd=>do let ds<-fi sd;zbc (fun x sd=>do let sd1<-g x sd;gb sd1) ds sd):=by
 refine PS.imp (zrb hp hc hi hg hb hs) fun D0 σ H ⟨ι,h,sd,L,hh,q⟩=>⟨ι,h,sd,L,hh,Fin.bind q fun ds h1 ι1 H1 e1 s1 hr1 q1 J ok=> ?_⟩
 refine ⟨fun i m σ' H'=>m=ds.length - i/\i<=ds.length/\ ∃ ι' h' sd',zch ι1 H1 ι' H'/\zc1 X.K ι' H' sd' σ'/\zbg X.K ι' H' h'/\Fin X.K E ι' H' (zbc (fun x sd=>do let sd1<-g x sd;gb sd1) (ds.drop i) sd' h') (zha X.K D0),
   ⟨_,rfl,Nat.zero_le _,ι1,h1,sd,zch.refl _ _,L.step s1,hr1,by simpa using q1⟩,?_⟩
 rintro i m σ2 H2 ⟨rfl,hi2,ι2,h2,sd2,s2,L2,hr2,q2⟩
 by_cases hlt:i<ds.length
 ·right
  refine ⟨ok.go ι2 H2 i s2.pass hlt,fun σ' H'=>i+1<=ds.length/\ ∃ ι' h' sd',zch ι1 H1 ι' H'/\zc1 X.K ι' H' sd' σ'/\zbg X.K ι' H' h'/\Fin X.K E ι' H' (zbc (fun x sd=>do let sd1<-g x sd;gb sd1) (ds.drop (i+1)) sd' h') (zha X.K D0),
    fun σ' H' p=>⟨ds.length - (i+1),by omega,rfl,p.1,p.2⟩,fun x H3 y=> ?_⟩
  obtain ⟨gr,d,ed,rd⟩:=ok.yld ι2 H2 h2 i x H3 s2.pass hr2 hlt y
  obtain ⟨s3,hr3⟩:=gr.step hr2
  have edr:ds.drop i=d::ds.drop (i+1):=by
   rw [List.drop_eq_getElem_cons hlt]
   rw [qaf hlt] at ed
   rw [Option.some.inj ed]
  rw [edr] at q2
  have q3:Fin X.K E ι2 H3 (zbc (fun x sd=>do let sd1<-g x sd;gb sd1) (d::ds.drop (i+1)) sd2 h2) (zha X.K D0):=Fin.step s3 q2
  refine ⟨ι2,h2,sd2,d,L2.step s3,hr3,rd,?_⟩
  have q5:Fin X.K E ι2 H3 ((g d sd2>>=fun sd1=>(gb sd1>>=fun o=>(match o with
    | .nx sd'=>zbc (fun x sd=>do let sd1<-g x sd;gb sd1) (ds.drop (i+1)) sd'
    | .ct sd'=>zbc (fun x sd=>do let sd1<-g x sd;gb sd1) (ds.drop (i+1)) sd'
    | .bk sd'=>pure (.nx sd')
    | .rt d=>pure (.rt d):M Out))) h2) (zha X.K D0):=by
   have e:(zbc (fun x sd=>do let sd1<-g x sd;gb sd1) (d::ds.drop (i+1)) sd2 h2)=((g d sd2>>=fun sd1=>(gb sd1>>=fun o=>(match o with
     | .nx sd'=>zbc (fun x sd=>do let sd1<-g x sd;gb sd1) (ds.drop (i+1)) sd'
     | .ct sd'=>zbc (fun x sd=>do let sd1<-g x sd;gb sd1) (ds.drop (i+1)) sd'
     | .bk sd'=>pure (.nx sd')
     | .rt d=>pure (.rt d):M Out))) h2):=by
    show M.bind (M.bind (g d sd2) gb) _ h2=M.bind (g d sd2) _ h2
    unfold M.bind
    cases g d sd2 h2<;>rfl
   rw [<- e]
   exact q3
  refine Fin.bind q5 fun sd6 h6 ι6 H6 e6 s6 hr6 q6 σ6 L6=> ?_
  refine ⟨ι6,h6,sd6,L6,hr6,Fin.bind q6 fun o h7 ι7 H7 e7 s7 hr7 q7=> ?_⟩
  have st7:zch ι1 H1 ι7 H7:=((s2.trans s3).trans s6).trans s7
  cases o with
  | nx sd'=>exact fun σ' L'=>⟨hlt,ι7,h7,sd',st7,L',hr7,q7⟩
  | ct sd'=>exact fun σ' L'=>⟨hlt,ι7,h7,sd',st7,L',hr7,q7⟩
  | bk sd'=>exact fun σ' L'=>Fin.out (E:=E) (P:=zha X.K D0) hr7 q7 σ' L'
  | rt d=>exact fun v rv=>Fin.out (E:=E) (P:=zha X.K D0) hr7 q7 v rv
 ·left
  have e:i=ds.length:=by omega
  subst e
  refine ⟨ok.stop ι2 H2 s2.pass,?_⟩
  rw [List.drop_length] at q2
  exact Fin.out (E:=E) (P:=zha X.K D0) hr2 q2 σ2 L2
noncomputable def zdi (f:D->M (Option D)):List D->M (List D)
 | []=>pure []
 | x::r=>do
  let o<-f x
  let ys<-zdi f r
  pure (match o with | some y=>y::ys | none=>ys)
noncomputable def za2 (g:D->Sd->M Sd) (tc:Sd->M Bool) (te:Sd->M D) (sd:Sd) (x:D):M (Option D):=do
 let sd1<-g x sd
 let c<-tc sd1
 if c=true then do
  let y<-te sd1
  pure (some y)
 else pure none
end
noncomputable def Io.hide (ι:Io) (p:Addr):Io:=⟨ι.c,p::ι.x⟩
noncomputable def Io.show (ι:Io):Io:=⟨ι.c,ι.x.tail⟩
theorem zm0 {ι:Io} {a:Addr} (h:ι.show.Has a):ι.Has a:=h.imp id List.mem_of_mem_tail
section
variable {K:W.Frag} {ι ι':Io} {H H':Hp} {p:Addr} {o:HO} {h:Hh}
theorem zhF (hp:H p=none):Pass ι H (ι.hide p) (upd H p o):=⟨fun _ _ z=> .inl z,fun b o' hb n=>⟨by rw [zaF (zaW hb hp)];exact hb,fun z=>by
  rcases z with z | z
  · exact n (.inl z)
  · rcases qaP.mp z with z | z
    · rw [z,hp] at hb;cases hb
    · exact n (.inr z)⟩⟩
theorem zhs:Pass ι H ι.show H:=⟨fun _ _ z=> .inl z,fun b o' hb n=>⟨hb,fun z=>n (zm0 z)⟩⟩
theorem zgz (hp:p∈ι.x):Pass ι H ι (upd H p o):=⟨fun _ _ z=> .inl z,fun b o' hb n=>⟨by rw [zaF (show b≠p from fun z=>n (.inr (z▸hp)))];exact hb,n⟩⟩
theorem zbg.hide (hr:zbg K ι H h) (hp:H p=none):zbg K (ι.hide p) (upd H p o) h:=
 ⟨hr.len,hr.inj,fun n a c h1 h2=>by
   obtain ⟨o',e2,e3⟩:=hr.at_ n a c h1 h2
   exact ⟨o',by rw [zaF (zaW e2 hp)];exact e2,e3.pass (zhF hp)⟩,hr.dead,fun a ha=>by
   rcases qaP.mp ha with z | z
   · subst z;exact ⟨⟨o,zaS⟩,fun z=>hr.nin hp (.inl z)⟩
   · refine ⟨?_,(hr.hidt a z).2⟩
     rw [zaF (show a≠p from fun w=>hr.nin hp (.inr (w▸z)))]
     exact (hr.hidt a z).1⟩
theorem zbg.hid (hr:zbg K ι H h) (hp:p∈ι.x):zbg K ι (upd H p o) h:=
 ⟨hr.len,hr.inj,fun n a c h1 h2=>by
   obtain ⟨o',e2,e3⟩:=hr.at_ n a c h1 h2
   have ne:a≠p:=fun z=>(hr.hidt p hp).2 (z▸List.mem_of_getElem? h1)
   exact ⟨o',by rw [zaF ne];exact e2,e3.pass (zgz hp)⟩,hr.dead,fun a ha=>by
   refine ⟨?_,(hr.hidt a ha).2⟩
   by_cases z:a=p
   · subst z;exact ⟨o,zaS⟩
   · rw [zaF z];exact (hr.hidt a ha).1⟩
theorem zbg.show (hr:zbg K ι H h):zbg K ι.show H h:=
 ⟨hr.len,hr.inj,fun n a c h1 h2=>by
   obtain ⟨o',e2,e3⟩:=hr.at_ n a c h1 h2
   exact ⟨o',e2,e3.pass zhs⟩,hr.dead,fun a ha=>hr.hidt a (List.mem_of_mem_tail ha)⟩
theorem zkV {ι1 ι2:Io} {H1 H2:Hp} (hp:H p=none) (hpx:p∉ι.x) (hx:ι1.x=p::ι.x) (s:zch ι H ι1.show H1) (t:zch ι1 H1 ι2 H2):zch ι H ι2.show (upd H2 p o) where
 old:=fun n q h=>by
  rcases s.old n q h with h | h
  ·exact t.old n q h
  ·rcases t.old n _ h with h | h<;>exact .inr h
 new:=fun a h=>by
  rcases t.new a h with h | h
  ·exact s.new a h
  ·by_cases z:some a∈ι.c
   ·exact .inl z
   ·refine .inr ?_
    cases q:H a with
    | none=>rfl
    | some o=>
     by_cases z':a∈ι.x
     ·rw [s.hidk a z',q] at h;cases h
     ·rw [s.keep a o q (fun w=>w.elim z z')] at h;cases h
 hid:=by
  show ι2.x.tail=ι.x
  rw [t.hid,hx]
  rfl
 hidk:=fun a ha=>by
  have z:a≠p:=fun z=>hpx (z▸ha)
  rw [zaF z,t.hidk a (by rw [hx];exact qan _ ha)]
  exact s.hidk a ha
 keep:=fun b q hb n=>by
  have ne:b≠p:=zaW hb hp
  rw [zaF ne]
  refine t.keep b q (s.keep b q hb n) fun z=> ?_
  rcases z with z | z
  ·rcases s.new b z with z | z
   ·exact n (.inl z)
   ·rw [hb] at z;cases z
  ·rw [hx] at z
   rcases qaP.mp z with z | z
   ·exact ne z
   ·exact n (.inr z)
theorem zch.shown {ι2:Io} {H2:Hp} {r:List Addr} (hx:ι.x=p::r) (t:zch ι H ι2 H2):zch ι.show H ι2.show H2 where
 old:=t.old
 new:=t.new
 hid:=by show ι2.x.tail=ι.x.tail;rw [t.hid]
 hidk:=fun a ha=>t.hidk a (List.mem_of_mem_tail ha)
 keep:=fun b q hb n=>by
  by_cases z:b=p
  ·subst z
   rw [t.hidk b (by rw [hx];exact qau)]
   exact hb
  ·refine t.keep b q hb fun w=> ?_
   rcases w with w | w
   ·exact n (.inl w)
   ·rw [hx] at w
    rcases qaP.mp w with w | w
    ·exact z w
    ·exact n (.inr (by show b∈ι.x.tail;rw [hx];exact w))
theorem Fin.bindB {α β:Type} {E:XE} {m:M α} {f:α->M β} {P:β->Io->Hp->Prop} {P':α->Io->Hp->Prop} {ιb:Io} {Hb:Hp} (q:Fin K E ιb Hb ((m>>=f) h) P)
  (conv: ∀ ι' H' h',zch ι H ι' H'->zbg K ι' H' h'-> ∃ ι'',zch ιb Hb ι'' H'/\zbg K ι'' H' h')
  (k: ∀ a h' ι' H',m h= .ok a h'->zch ι H ι' H'->zbg K ι' H' h'->Fin K E ιb Hb (f a h') P->P' a ι' H'):Fin K E ι H (m h) P':=by
 have q':Fin K E ιb Hb (M.bind m f h) P:=q
 unfold M.bind at q'
 cases e:m h with
 | ok a h'=>
  rw [e] at q'
  intro ι' H' s hr
  exact k a h' ι' H' e s hr q'
 | exc c h'=>
  rw [e] at q'
  intro ι' H' s hr
  obtain ⟨ι'',s2,hr2⟩:=conv ι' H' h' s hr
  exact q' _ _ s2 hr2
 | bad=>rw [e] at q';exact q'
end
noncomputable instance:LawfulMonad M:=LawfulMonad.mk' M
 (id_map:=fun x=>by
   funext h
   show M.bind x (fun a=>M.pure (id a)) h=x h
   unfold M.bind M.pure
   cases x h<;>rfl)
 (pure_bind:=fun x f=>rfl)
 (bind_assoc:=fun x f g=>by
   funext h
   show M.bind (M.bind x f) g h=M.bind x (fun a=>M.bind (f a) g) h
   unfold M.bind
   cases x h<;>rfl)
noncomputable def zaq (src:List (Option Nat)) (sd:Sd):Sd:=src.map fun o=>o.bind fun i=>(sd[i]?).join
theorem zc1.bStart {K:W.Frag} {ι:Io} {H:Hp} {sd:Sd} {σ:L2.St} {src:List (Option Nat)} (h:zc1 K ι H sd σ):zc1 K ι H (zaq src sd) (bStart src σ):=by
 refine ⟨by unfold zaq L2.bStart;rw [qaH,qaH],fun i d e=> ?_⟩
 unfold zaq at e
 unfold L2.bStart
 rw [List.getElem?_map] at e ⊢
 cases z:src[i]? with
 | none=>rw [z] at e;cases e
 | some o=>
  rw [z] at e
  cases o with
  | none=>cases e
  | some j=>
   have e:(sd[j]?).join=some d:=by simpa using e
   cases w:sd[j]? with
   | none=>rw [w] at e;cases e
   | some q=>
    rw [w] at e
    have e:q=some d:=by simpa using e
    subst e
    obtain ⟨v,h1,h2⟩:=h.2 j d w
    exact ⟨v,by simp [h1],h2⟩
def zaA (g:D->Sd->M Sd) (src:List (Option Nat)):Prop:= ∀ x sd h sd1 h1,sd.length=src.length->(∀ (i:Nat),src[i]? = some none->sd[i]? = some none)->g x sd h= .ok sd1 h1->sd1.length=sd.length/\ ∀ (i:Nat) d,src[i]? ≠ some none->sd[i]? = some (some d)->sd1[i]? = some (some d)
def zaT (g:List D->Sd->M Sd) (src:List (Option Nat)):Prop:= ∀ x sd h sd1 h1,g x sd h= .ok sd1 h1->sd1.length=sd.length/\ ∀ (i:Nat) d,src[i]? ≠ some none->sd[i]? = some (some d)->sd1[i]? = some (some d)
theorem zlq {i:Nat} {src:List (Option Nat)} (h:src[i]? = some none): ∀ x sd h sd1 h1,zaw i x sd h= .ok sd1 h1->sd1.length=sd.length/\ ∀ (j:Nat) d,src[j]? ≠ some none->sd[j]? = some (some d)->sd1[j]? = some (some d):=fun x sd h0 sd1 h1 e=>by
 have e:R.ok (sd.set i (some x)) h0= .ok sd1 h1:=e
 cases e
 refine ⟨qaI,fun j d hj e=> ?_⟩
 rw [qao (show i≠j from fun z=>hj (z▸h))]
 exact e
theorem zaA.name {i:Nat} {src:List (Option Nat)} (h:src[i]? = some none):zaA (zaw i) src:=fun x sd h0 sd1 h1 _ _ e=>zlq h x sd h0 sd1 h1 e
theorem zaT.nil {src:List (Option Nat)}:zaT zbP src:=fun x sd h sd1 h1 e=>by
 cases x with
 | nil=>
  have e:R.ok sd h= .ok sd1 h1:=e
  cases e
  exact ⟨rfl,fun _ _ _ z=>z⟩
 | cons _ _=>cases (show R.bad=R.ok sd1 h1 from e)
theorem zaT.cons {i:Nat} {gs:List D->Sd->M Sd} {src:List (Option Nat)} (h:src[i]? = some none) (t:zaT gs src):zaT (zau (zaw i) gs) src:=fun x sd h0 sd1 h1 e=>by
 cases x with
 | nil=>cases (show R.bad=R.ok sd1 h1 from e)
 | cons d r=>
  have e:gs r (sd.set i (some d)) h0= .ok sd1 h1:=e
  obtain ⟨e1,e2⟩:=t r _ h0 sd1 h1 e
  refine ⟨by rw [e1,qaI],fun j d' hj z=>e2 j d' hj ?_⟩
  rw [qao (show i≠j from fun z=>hj (z▸h))]
  exact z
theorem zaA.tup {n:Nat} {gs:List D->Sd->M Sd} {src:List (Option Nat)} (t:zaT gs src):zaA (zbO n gs) src:=fun x sd h0 sd1 h1 _ _ e=>by
 cases x with
 | tup ds=>
  have e:(if ds.length=n then gs ds sd else M.bad) h0= .ok sd1 h1:=e
  by_cases hl:ds.length=n
  ·rw [qa4 hl] at e;exact t _ _ _ _ _ e
  ·rw [qa5 hl] at e;cases (show R.bad=R.ok sd1 h1 from e)
 | _=>cases (show R.bad=R.ok sd1 h1 from e)
section
variable {X:Cx} {E:XE} {scope:Scope} {N:List Str} {src:List (Option Nat)} {tg iter elt:Expr} {ifs:List Expr} {pos:Pos}
noncomputable abbrev SCs (X:Cx) (E:XE) (ifs:List Expr) (t:Sd->M Bool):Prop:=PCs X ifs (zg7 X.K E t)
theorem zrP:SCs X E [] (fun _=>pure true):=fun pins s σ H Q I ⟨ι,h,sd,L,hh,q⟩=>zps pins s σ H Q I (Fin.out hh q)
theorem zrG {c:Expr} {t:Sd->M Bool} (h:ST X E c t):SCs X E [c] t:=zoJ h
theorem blk {K:W.Frag} {g:D->Sd->M Sd} {tc:Sd->M Bool} {te:Sd->M D} {J:It} {ds:List D} {ι:Io} {H:Hp} {h:Hh} {sd:Sd} {σ:L2.St} {Q:VK} {p:Addr} (hk:zaA g src) (L:zc1 K ι H sd σ) (hr:zbg K ι H h) (ok:zqh K ι H J ds) (hz:ds.length<=sizeLine)
  (q:Fin K E ι H ((do let ys<-zdi (za2 g tc te (zaq src sd)) ds;pure (D.lst ys)) h) fun d ι' H'=> ∀ v,Rel K ι' H' d v->Q v H') (hp:H p=none):
  ztp J (ztD K E g) (zg7 K E tc) (zhC K E te) (bStart src σ) H p fun H'=>Q (.ref p) H':=by
 generalize hP:(fun (d:D) (ι':Io) (H':Hp)=> ∀ v,Rel K ι' H' d v->Q v H')=P at q
 generalize hf:za2 g tc te (zaq src sd)=f at q
 have hpx:p∉ι.x:=fun z=>hr.nin hp (.inr z)
 have h0len:(zaq src sd).length=src.length:=by unfold zaq;rw [qaH]
 have h0non: ∀ (i:Nat),src[i]? = some none->(zaq src sd)[i]? = some none:=fun i e=>by unfold zaq;rw [List.getElem?_map,e];rfl
 refine ⟨fun i m σ' H'=>m=ds.length - i/\i<=ds.length/\ ∃ ι' h' done vs,ι'.x=p::ι.x/\zch ι H ι'.show H'/\zc1 K ι' H' (zaq src sd) σ'/\zbg K ι' H' h'/\H' p=some (.lst vs)/\zat K ι' H' done vs/\done.length<=i/\
     Fin K E ι H ((do let ys<-zdi f (ds.drop i);pure (D.lst (done++ys))) h') P,
   ⟨_,rfl,Nat.zero_le _,ι.hide p,h,[],[],rfl,?_,L.bStart.pass (zhF hp),hr.hide hp,zaS,zat.nil,qaV _,?_⟩,?_⟩
 ·have:=hr.laidS (o:= .lst []) hp
  exact ⟨this.old,this.new,this.hid,this.hidk,this.keep⟩
 ·simpa using q
 rintro i m σ2 H2 ⟨rfl,hi2,ι2,h2,done,vs,hx2,s2,L2,hr2,e2,rl2,dl2,q2⟩
 have ps2:Pass ι H ι2 H2:=⟨s2.old,fun b o hb n=>⟨s2.keep b o hb n,fun z=>by
   rcases z with z | z
   · exact s2.nin hb n (.inl z)
   · rw [hx2] at z
     rcases qaP.mp z with z | z
     · rw [z,hp] at hb;cases hb
     · exact n (.inr z)⟩⟩
 have hp2:p∈ι2.x:=by rw [hx2];exact qau
 have base: ∀ {ι':Io} {H':Hp},zch ι2 H2 ι' H'->zch ι H ι'.show H':=fun t=>s2.trans (t.shown hx2)
 by_cases hlt:i<ds.length
 ·right
  refine ⟨ok.go ι2 H2 i ps2 hlt,fun σ' H'=>i+1<=ds.length/\ ∃ ι' h' done vs,ι'.x=p::ι.x/\zch ι H ι'.show H'/\zc1 K ι' H' (zaq src sd) σ'/\zbg K ι' H' h'/\H' p=some (.lst vs)/\zat K ι' H' done vs/\done.length<=i+1/\
    Fin K E ι H ((do let ys<-zdi f (ds.drop (i+1));pure (D.lst (done++ys))) h') P,fun σ' H' z=>⟨ds.length - (i+1),by omega,rfl,z.1,z.2⟩,fun x H3 y=> ?_⟩
  obtain ⟨gr,d,ed,rd⟩:=ok.yld ι2 H2 h2 i x H3 ps2 hr2 hlt y
  obtain ⟨s3,hr3⟩:=gr.step hr2
  have edr:ds.drop i=d::ds.drop (i+1):=by
   rw [List.drop_eq_getElem_cons hlt]
   rw [qaf hlt] at ed
   rw [Option.some.inj ed]
  rw [edr] at q2
  have q3:=q2
  have st3:zch ι2 H2 ι2 H3:=s3
  have e3:H3 p=some (.lst vs):=by rw [s3.hidk p hp2];exact e2
  have eq1:(do let ys<-zdi f (d::ds.drop (i+1));pure (D.lst (done++ys)):M D)=(g d (zaq src sd)>>=fun sd1=>tc sd1>>=fun c=>if c=true then (te sd1>>=fun y=>zdi f (ds.drop (i+1))>>=fun ys=>pure (D.lst (done++[y]++ys))) else (zdi f (ds.drop (i+1))>>=fun ys=>pure (D.lst (done++ys)))):=by
   rw [zdi]
   rw [<- hf]
   simp only [za2,bind_assoc]
   refine congrArg _ (funext fun sd1=> ?_)
   refine congrArg _ (funext fun c=> ?_)
   cases c with
   | true=>simp only [if_true,bind_assoc,pure_bind,List.append_assoc,List.cons_append,List.nil_append]
   | false=>simp only [qax,if_false,pure_bind]
  rw [eq1] at q3
  refine ⟨ι2,h2,zaq src sd,d,L2.step s3,hr3,rd,?_⟩
  refine Fin.bindB q3 (fun ι' H' h' s hr'=>⟨ι'.show,base (s3.trans s),hr'.show⟩) fun sd4 h4 ι4 H4 e4 s4 hr4 q4 σ4 L4=> ?_
  have hx4:ι4.x=p::ι.x:=by rw [s4.hid];exact hx2
  obtain ⟨k1,k2⟩:=hk d _ h2 sd4 h4 h0len h0non e4
  refine ⟨ι4,h4,sd4,L4,hr4,Fin.bindB q4 (fun ι' H' h' s hr'=>⟨ι'.show,base ((s3.trans s4).trans s),hr'.show⟩) fun c h5 ι5 H5 e5 s5 hr5 q5=> ?_⟩
  have hx5:ι5.x=p::ι.x:=by rw [s5.hid];exact hx4
  have sub: ∀ {ι':Io} {H':Hp},zc1 K ι' H' sd4 σ4->zc1 K ι' H' (zaq src sd) σ4:=fun {ι' H'} z=>⟨by rw [<- k1];exact z.1,fun j d' e=>z.2 j d' (k2 j d' (fun w=>by rw [h0non j w] at e;cases e) e)⟩
  have st5:zch ι2 H2 ι5 H5:=(s3.trans s4).trans s5
  cases c with
  | false=>
   exact zpM ⟨hlt,ι5,h5,done,vs,hx5,base st5,sub (L4.step s5),hr5,by rw [st5.hidk p hp2];exact e2,rl2.step st5,Nat.le_succ_of_le dl2,q5⟩
  | true=>
   refine zpd ⟨ι5,h5,sd4,L4.step s5,hr5,Fin.bindB q5 (fun ι' H' h' s hr'=>⟨ι'.show,base (st5.trans s),hr'.show⟩) fun yd h6 ι6 H6 e6 s6 hr6 q6 y ry=> ?_⟩
   have st6:zch ι2 H2 ι6 H6:=st5.trans s6
   have hx6:ι6.x=p::ι.x:=by rw [s6.hid];exact hx5
   have hp6:p∈ι6.x:=by rw [hx6];exact qau
   have e6':H6 p=some (.lst vs):=by rw [st6.hidk p hp2];exact e2
   refine ⟨vs,e6',by rw [<- rl2.length];omega,hlt,ι6,h6,done++[yd],vs++[y],hx6,zkV hp hpx hx2 s2 st6,?_,hr6.hid hp6,zaS,?_,?_,?_⟩
   ·exact ((sub (L4.step s5)).step s6).pass (zgz hp6)
   ·exact ((rl2.step st6).append (zat.cons ry zat.nil)).pass (zgz hp6)
   ·rw [qav,List.length_singleton];omega
   ·exact q6
 ·left
  have e:i=ds.length:=by omega
  subst e
  refine ⟨ok.stop ι2 H2 ps2,?_⟩
  rw [List.drop_length] at q2
  have q3:P (.lst done) ι2.show H2:=by
   have:Fin K E ι H ((pure (D.lst (done++[])):M D) h2) P:=q2
   rw [List.append_nil] at this
   exact this _ _ s2 hr2.show
  rw [<- hP] at q3
  refine q3 (.ref p) ?_
  simp only [Rel]
  refine ⟨p,vs,rfl,⟨e2,fun z=> ?_⟩,rl2.pass zhs⟩
  rcases z with z | z
  ·exact (hr2.hidt p (by rw [hx2];exact qau)).2 z
  ·exact hpx (by have z:p∈ι2.x.tail:=z;rw [hx2] at z;exact z)
noncomputable def zao (fi:Sd->M (List D)) (g:D->Sd->M Sd) (tc:Sd->M Bool) (te:Sd->M D) (src:List (Option Nat)):Sd->M D:=fun sd=>do
 let ds<-fi sd
 fits ds.length
 let ys<-zdi (za2 g tc te (zaq src sd)) ds
 pure (D.lst ys)
theorem zmh {K:W.Frag} {fi:Sd->M (List D)} {g:D->Sd->M Sd} {tc:Sd->M Bool} {te:Sd->M D} (hk:zaA g src) (σ:L2.St) (H:Hp) (Q:VK) (q:zhC K E (zao fi g tc te src) σ H Q):
  zoP (zuu K E fi) (ztD K E g) (zg7 K E tc) (zhC K E te) src σ H Q:=by
 obtain ⟨ι,h,sd,L,hh,q⟩:=q
 refine ⟨ι,h,sd,L,hh,Fin.bind q fun ds h1 ι1 H1 e1 s1 hr1 q1 J ok p hp=> ?_⟩
 obtain ⟨z,q2⟩:=Fin.fits q1
 exact blk hk (L.step s1) hr1 ok z q2 hp
theorem zo7 {fi:Sd->M (List D)} {g:D->Sd->M Sd} {tc:Sd->M Bool} {te:Sd->M D} (B:BOk X scope N src) (hk:zaA g src) (hi:SI X E tg iter fi)
  (hg: ∀ s H fp,SG (cxB X scope N s H fp) E tg g) (ht: ∀ s H fp,SCs (cxB X scope N s H fp) E ifs tc) (he: ∀ s H fp,SE (cxB X scope N s H fp) E elt te)
  (hs: ∀ x,foldedSetIterable iter X.env x=pure x:=by intro _;rfl):SE X E (.ListComp elt [⟨tg,iter,ifs,0⟩] scope pos) (zao fi g tc te src):=
 PE.imp (zo2 B hi hg ht he hs) (zmh hk)
theorem zml {fi:Sd->M (List D)} {g:D->Sd->M Sd} {tc:Sd->M Bool} {te:Sd->M D} (i:Nat) {y:Str} {py spos:Pos} (B:BOk X scope N src) (hk:zaA g src) (hi:SI X E tg iter fi)
  (hg: ∀ s H fp,SG (cxB X scope N s H fp) E tg g) (ht: ∀ s H fp,SCs (cxB X scope N s H fp) E ifs tc) (he: ∀ s H fp,SE (cxB X scope N s H fp) E elt te)
  (hN:X.N.Nodup) (hy:X.N[i]? = some y) (hx:Loc X.env.scope y) (hf:X.fn y=true\/X.env.scope.names.lookup y=some .local) (hsw:swapsWith (.ListComp elt [⟨tg,iter,ifs,0⟩] scope pos) (some (.Name y py)) spos.line X.env=pure true)
  (hs: ∀ x,foldedSetIterable iter X.env x=pure x:=by intro _;rfl):SS X E (.Assign [.Name y py] (.ListComp elt [⟨tg,iter,ifs,0⟩] scope pos) spos) (fun sd=>do let d<-zao fi g tc te src sd;pure (.nx (sd.set i (some d)))):=by
 refine PS.imp (zjZ B hi hg ht he hN hy hx hsw hf hs) fun D0 σ H ⟨ι,h,sd,L,hh,q⟩=>zmh hk σ H _ ⟨ι,h,sd,L,hh,Fin.bind q fun d h1 ι1 H1 e1 s1 hr1 q1 v rv=> ?_⟩
 exact Fin.out (E:=E) (P:=zha X.K D0) hr1 q1 _ ((L.step s1).set rv i)
end
section
variable {K:W.Frag} {ι:Io} {H:Hp} {h:Hh} {n:Nat} {a:Addr}
theorem zfG {o:HO} (hn:ι.c[n]? = some (some a)):Pass ι H ι (upd H a o):=⟨fun _ _ z=> .inl z,fun b o' hb nb=>⟨by rw [zaF (show b≠a from fun z=>nb (.inl (z▸List.mem_of_getElem? hn)))];exact hb,nb⟩⟩
theorem zbg.cellS {o:HO} (hr:zbg K ι H h) (hn:ι.c[n]? = some (some a)):zch ι H ι (upd H a o):=
 ⟨fun _ _ z=> .inl z,fun _ z=> .inl z,rfl,fun b hb=>zaF fun z=>(hr.hidt b hb).2 (z▸List.mem_of_getElem? hn),fun b o' hb nb=>((zfG hn).keep b o' hb nb).1⟩
theorem zbg.cellO {c':C} {o':HO} (hr:zbg K ι H h) (hn:ι.c[n]? = some (some a)) (co:CO K ι H c' o'):zbg K ι (upd H a o') (h.set n c'):=by
 refine ⟨by rw [qaI];exact hr.len,hr.inj,fun m b c hm hc=> ?_,fun m hm=> ?_,fun b hb=>⟨?_,(hr.hidt b hb).2⟩⟩
 ·by_cases e:n=m
  ·subst e
   rw [hn] at hm
   cases hm
   rw [qai (by rw [hr.len];exact (qac.mp hn).1)] at hc
   cases hc
   exact ⟨o',zaS,co.pass (zfG hn)⟩
  ·rw [qao e] at hc
   obtain ⟨o2,e2,e3⟩:=hr.at_ m b c hm hc
   have ne:b≠a:=fun z=>by subst z;exact e (hr.inj n m b hn hm)
   exact ⟨o2,by rw [zaF ne];exact e2,e3.pass (zfG hn)⟩
 ·have e:n≠m:=fun z=>by subst z;rw [hn] at hm;cases hm
  rw [qao e]
  exact hr.dead m hm
 ·rw [zaF (show b≠a from fun z=>(hr.hidt b hb).2 (z▸List.mem_of_getElem? hn))]
  exact (hr.hidt b hb).1
theorem zbg.cell {ds':List D} {vs':List V} (hr:zbg K ι H h) (hn:ι.c[n]? = some (some a)) (rl:zat K ι H ds' vs'):zbg K ι (upd H a (.lst vs')) (h.set n (.lst ds')):=hr.cellO hn ⟨vs',rfl,rl⟩
theorem zbg.read {ds:List D} {v:V} (hr:zbg K ι H h) (r:Rel K ι H (.cel n) v) (e:h[n]? = some (.lst ds)): ∃ a vs,v= .ref a/\ι.c[n]? = some (some a)/\H a=some (.lst vs)/\zat K ι H ds vs:=by
 simp only [Rel] at r
 obtain ⟨a,e1,r | r⟩:=r
 ·obtain ⟨o,e3,vs,rfl,e4⟩:=hr.at_ n a _ r e
  exact ⟨a,vs,e1,r,e3,e4⟩
 ·rw [hr.dead n r] at e
  cases e
end
noncomputable def zar (n:Nat):M (List D):=fun h=>match h[n]? with
 | some (.lst ds)=> .ok ds h
 | _=> .bad
noncomputable def zbX (n:Nat) (ds:List D):M Unit:=fun h=> .ok () (h.set n (.lst ds))
theorem zc3 {n:Nat} {h h':Hh} {ds:List D} (e:zar n h= .ok ds h'):h'=h/\h[n]? = some (.lst ds):=by
 unfold zar at e
 cases z:h[n]? with
 | none=>rw [z] at e;cases e
 | some c=>
  rw [z] at e
  cases c with
  | lst xs=>cases e;exact ⟨rfl,rfl⟩
  | dic _=>cases e
  | dead=>cases e
noncomputable def ofO {α:Type}:Option α->M α
 | some a=>pure a
 | none=>M.bad
noncomputable def dIx:D->D->M D:=fun x y=>match x,y with
 | .tup ds,.int i=>ofO (atI ds i)
 | .lst ds,.int i=>ofO (atI ds i)
 | .scr ds,.int i=>ofO (atI ds i)
 | .cel n,.int i=>do let ds<-zar n;ofO (atI ds i)
 | _,_=>M.bad
theorem zgW {K:W.Frag} {ι:Io} {H:Hp} {ds:List D} {vs:List V} {i:Int} {d:D} (rl:zat K ι H ds vs) (e:atI ds i=some d): ∃ v,atI vs i=some v/\Rel K ι H d v:=by
 unfold atI at e ⊢
 rw [<- rl.length]
 cases z:ixN ds.length i with
 | none=>rw [z] at e;cases e
 | some j=>
  rw [z] at e
  have e:ds[j]? = some d:=e
  exact rl.get e
section
variable {X:Cx} {E:XE}
theorem Fin.ofO {α:Type} {K:W.Frag} {ι:Io} {H:Hp} {h:Hh} {o:Option α} {P:α->Io->Hp->Prop} (hr:zbg K ι H h) (q:Fin K E ι H (L3.ofO o h) P): ∃ a,o=some a/\P a ι H:=by
 cases o with
 | none=>exact qa0 q
 | some a=>exact ⟨a,rfl,Fin.out hr q⟩
theorem zuS:IxR X (zee X.K E dIx):=by
 refine IxR.imp (zlS.or zrp) fun x y H Q ⟨ι,h,d1,d2,r1,r2,hr,q⟩=> ?_
 cases d2 with
 | int i=>
  simp only [Rel] at r2
  cases d1 with
  | tup ds=>
   obtain ⟨a,vs,e,h1,h2⟩:=zds r1
   obtain ⟨d,e1,q⟩:=Fin.ofO hr q
   obtain ⟨v,e2,rv⟩:=zgW h2 e1
   exact .inr ⟨a,vs,i,v,e,r2,h1,e2,q v rv⟩
  | lst ds=>
   obtain ⟨a,vs,e,h1,h2⟩:=zfM r1
   obtain ⟨d,e1,q⟩:=Fin.ofO hr q
   obtain ⟨v,e2,rv⟩:=zgW h2 e1
   exact .inl ⟨a,vs,i,v,e,r2,h1,e2,q v rv⟩
  | scr ds=>
   obtain ⟨a,vs,e,h1,h2⟩:=zkY r1
   obtain ⟨d,e1,q⟩:=Fin.ofO hr q
   obtain ⟨v,e2,rv⟩:=zgW h2 e1
   exact .inl ⟨a,vs,i,v,e,r2,h1,e2,q v rv⟩
  | cel n=>
   have q:Fin X.K E ι H ((zar n>>=fun ds=>L3.ofO (atI ds i)) h) _:=q
   have q':Fin X.K E ι H (M.bind (zar n) (fun ds=>L3.ofO (atI ds i)) h) _:=q
   unfold M.bind at q'
   cases z:zar n h with
   | bad=>rw [z] at q';exact qa0 q'
   | exc c h'=>unfold zar at z;split at z<;>cases z
   | ok ds h'=>
    rw [z] at q'
    obtain ⟨rfl,z2⟩:=zc3 z
    obtain ⟨a,vs,e,hn,hH,rl⟩:=hr.read r1 z2
    obtain ⟨d,e1,q⟩:=Fin.ofO hr q'
    obtain ⟨v,e2,rv⟩:=zgW rl e1
    exact .inl ⟨a,vs,i,v,e,r2,SqL.of hH,e2,q v rv⟩
  | _=>exact qa0 q
 | _=>cases d1<;>exact qa0 q
noncomputable def zlb (o i d:D):M Unit:=match o,i with
 | .cel n,.int k=>do
  let ds<-zar n
  let j<-ofO (ixN ds.length k)
  zbX n (ds.set j d)
 | _,_=>M.bad
theorem zsn {o i:Expr} {pos:Pos} {fo fi:Sd->M D} (hp: ∀ {t:zsT},zqu X t->PG X (.Subscript o i pos) (zup (zhC X.K E fo) (zhC X.K E fi) t)):
  SG X E (.Subscript o i pos) (fun d sd=>do let x<-fo sd;let y<-fi sd;zlb x y d;pure sd):=by
 refine PG.imp (hp znt) fun v σ H Q ⟨ι,h,sd,d,L,hr,rd,q⟩=>⟨ι,h,sd,L,hr,Fin.bind q fun x h1 ι1 H1 e1 s1 hr1 q1 xv rx=> ?_⟩
 refine ⟨ι1,h1,sd,L.step s1,hr1,Fin.bind q1 fun y h2 ι2 H2 e2 s2 hr2 q2 yv ry=> ?_⟩
 cases x with
 | cel n=>
  cases y with
  | int k=>
   have rx2:=rx.step s2
   have q3:Fin X.K E ι2 H2 ((zar n>>=fun ds=>(ofO (ixN ds.length k)>>=fun j=>zbX n (ds.set j d)>>=fun _=>pure sd)) h2) (fun sd' ι' H'=> ∀ σ',zc1 X.K ι' H' sd' σ'->Q σ' H'):=by
    have e:(do zlb (.cel n) (.int k) d;pure sd:M Sd)=(zar n>>=fun ds=>(ofO (ixN ds.length k)>>=fun j=>zbX n (ds.set j d)>>=fun _=>pure sd)):=by
     show ((zar n>>=fun ds=>(ofO (ixN ds.length k)>>=fun j=>zbX n (ds.set j d)))>>=fun _=>pure sd)=_
     simp only [bind_assoc]
    rw [<- e]
    exact q2
   have q':Fin X.K E ι2 H2 (M.bind (zar n) (fun ds=>(ofO (ixN ds.length k)>>=fun j=>zbX n (ds.set j d)>>=fun _=>pure sd)) h2) _:=q3
   unfold M.bind at q'
   cases z:zar n h2 with
   | bad=>rw [z] at q';exact qa0 q'
   | exc c h'=>unfold zar at z;split at z<;>cases z
   | ok ds h'=>
    rw [z] at q'
    obtain ⟨rfl,z2⟩:=zc3 z
    obtain ⟨a,vs,e,hn,hH,rl⟩:=hr2.read rx2 z2
    simp only [Rel] at ry
    have q4:Fin X.K E ι2 H2 (M.bind (ofO (ixN ds.length k)) (fun j=>zbX n (ds.set j d)>>=fun _=>pure sd) h') _:=q'
    unfold M.bind at q4
    cases z3:ixN ds.length k with
    | none=>rw [z3] at q4;exact qa0 q4
    | some j=>
     rw [z3] at q4
     have q5:Fin X.K E ι2 H2 (R.ok sd (h'.set n (.lst (ds.set j d)))) (fun sd' ι' H'=> ∀ σ',zc1 X.K ι' H' sd' σ'->Q σ' H'):=q4
     refine ⟨a,vs,k,j,e,ry,hH,by rw [<- rl.length];exact z3,?_⟩
     have rd2:=(rd.step s1).step s2
     exact q5 ι2 _ (hr2.cellS hn) (hr2.cell hn (rl.set rd2 j)) σ (((L.step s1).step s2).step (hr2.cellS hn))
  | _=>exact qa0 q2
 | _=>cases y<;>exact qa0 q2
end
noncomputable abbrev E0x:XE:=fun _ _=>False
noncomputable def zbV (K:W.Frag) (n:Nat) (F:List D->M D):Sp:=fun vs H Q _=>vs.length=n/\ ∃ ι h ds,zat K ι H ds vs/\zbg K ι H h/\Fin K E0x ι H (F ds h) fun d ι' H'=> ∀ v,Rel K ι' H' d v->Q v H'
noncomputable def zgc (n:Nat) (ds:List D):Sd:=ds.map some++List.replicate (n - ds.length) none
noncomputable def zb7:Out->M D
 | .nx _=>pure .non
 | .rt d=>pure d
 | _=>M.bad
noncomputable def zb6 (n:Nat) (G:Sd->M Out) (ds:List D):M D:=do let o<-G (zgc n ds);zb7 o
theorem zeP {K:W.Frag} {ι:Io} {H:Hp} {ds:List D} {vs:List V} {N:List Str} (h:zat K ι H ds vs):zc1 K ι H (zgc N.length ds) (L2.zeV N vs):=by
 have hl:=h.length
 unfold zgc L2.zeV
 refine ⟨by simp [hl],fun i d e=> ?_⟩
 by_cases hi:i<ds.length
 ·rw [qad (by simpa using hi),List.getElem?_map] at e
  cases z:ds[i]? with
  | none=>rw [z] at e;cases e
  | some d'=>
   rw [z] at e
   cases e
   obtain ⟨v,h1,h2⟩:=h.get z
   exact ⟨v,by rw [qad (by rw [qaH, <-hl];exact hi),List.getElem?_map,h1];rfl,h2⟩
 ·rw [qaa (by simpa using hi),List.getElem?_replicate] at e
  split at e<;>cases e
section
variable {P:Program} {w:World} {K:W.Frag} {mg:Str->Option Value} {base:Heap}
theorem zbj {x qual:Str} {st:Stmt} {f:Addr} {fd:FuncData} {N ps:List Str} {k:Nat} {G:Sd->M Out} (F:Fun K x qual st f fd) (S:zal N ps (zae st))
  (hb: ∀ (cdv:Value) (A:Around) (outer:List Env) (s:Shared) (H:Hp) (E:XK),zdV k (A.deeper (envOfC qual (zae st) s.heap.objs.size f cdv))->SSs (zib CX0 P w K mg base N qual (zae st) f cdv A outer s H E).nox E0x (zcM st) G):
  zbq P w K mg base CX0 (k+1) f fd ps (zbV K ps.length (zb6 N.length G)):=by
 refine F.ok S (fun vs H Q E h=>h.1) fun cdv A outer s H vs Q E hr ⟨hl,ι,h,ds,rl,hh,q⟩=>⟨_,hb cdv A outer s H E hr,ι,h,zgc N.length ds,zeP rl,hh,?_⟩
 refine Fin.bind q fun o h1 ι1 H1 e1 s1 hr1 q1=> ?_
 cases o with
 | nx sd=>exact fun σ' _=>Fin.out hr1 q1 _ (by simp [Rel])
 | rt d=>exact fun v rv=>Fin.out hr1 q1 v rv
 | bk sd=>exact qa0 q1
 | ct sd=>exact qa0 q1
end
section
variable {X:Cx} {e:Expr} {es:List Expr} {pos p:Pos}
noncomputable def zap (n:Nat) (F:List D->M D) (ds:List D):M D:=if ds.length=n then F ds else M.bad
theorem zoG {k:Nat} {f:Addr} {fd:FuncData} {ps:List Str} {n:Nat} {F:List D->M D} {fs:Sd->M (List D)} {x:Str} (G:zbq X.prog X.w X.K X.mg X.base CX0 k f fd ps (zbV X.K n F)) (hr:zdV k X.A) (hg:Gl X x) (hm:X.mg x=some (.ref f)) (hk:W.keepIn X.K (.ref f)=true) (hb:zaJ X.K fd ps [])
  (ha:SA X E0x (e::es) fs) (hdb:(x==("__debug__":Str))=false:=by decide) (he:starEach (e::es) X.env=(false,eval e X.env)::starEach es X.env:=by rfl) (hpl:(backTo pos (starEach es X.env)).any (·.1)=false:=by rfl):
  SE X E0x (.Call (.Name x p) (e::es) [] pos) (fun sd=>do let ds<-fs sd;zap n F ds):=by
 refine PE.imp (ziP G hr hg hm hk hb (dvs:=[]) .nil (E:=fun _ _ _=>False) zrF ha hdb he hpl) fun σ H Q ⟨ι,h,sd,L,hh,q⟩=>⟨ι,h,sd,L,hh,Fin.bind q fun ds h1 ι1 H1 e1 s1 hr1 q1 vs rv=> ?_⟩
 show zbV X.K n F (vs++[]) H1 Q _
 rw [List.append_nil]
 unfold zap at q1
 by_cases hl:ds.length=n
 ·rw [qa4 hl] at q1
  exact ⟨by rw [<- rv.length];exact hl,ι1,h1,ds,rv,hr1,q1⟩
 ·rw [qa5 hl] at q1
  exact qa0 q1
end
section
variable {X:Cx} {E:XE}
theorem Fin.guard {α:Type} {K:W.Frag} {ι:Io} {H:Hp} {h:Hh} {c:Prop} [Decidable c] {f:M α} {P:α->Io->Hp->Prop} (q:Fin K E ι H ((if c then f else M.bad) h) P):c/\Fin K E ι H (f h) P:=by
 by_cases hc:c
 ·rw [qa4 hc] at q;exact ⟨hc,q⟩
 ·rw [qa5 hc] at q;exact qa0 q
theorem zm9:OpR X (binaryOp .Add) (fun x y H Q=> ∃ a b ys,x= .ref a/\y= .ref b/\SqT X.K H a []/\SqT X.K H b ys/\Q (.ref b) H):=by
 intro pins s σ H x y v u Q I rx ry h
 obtain ⟨a,b,ys,rfl,rfl,ha,hb,q⟩:=h
 cases rx
 cases ry
 obtain ⟨its,r1,p1,_⟩:=I.tuple ha
 obtain ⟨its2,r2,p2,_⟩:=I.tuple hb
 cases r1
 obtain ⟨⟨cls,dd,data,sl⟩,ho,hc,n,hd⟩:=id p1
 obtain ⟨⟨cls2,dd2,data2,sl2⟩,ho2,hc2,n2,hd2⟩:=id p2
 simp only at hc hd hc2 hd2
 subst hc hd hc2 hd2
 exact concat_meets ⟨_,ho,rfl⟩ ⟨_,ho2,rfl⟩ noFill_tuple_add seq_tuple_add PySem.F.slot_tuple_add PySem.F.entry_tuple_add (PySem.F.args_tuple_add_2 _ _)
   (tuple_addW0 a b _ _ n n2 dd dd2 sl sl2 (by simp)) ⟨ho,ho2,⟨.ref b,H,I,rfl,q⟩⟩
noncomputable def zdo (x y:D):M D:=match x,y with
 | .int i,.int j=>pure (.int (i+j))
 | .tup xs,.tup ys=>do fits (xs.length+ys.length);pure (.tup (xs++ys))
 | .lst xs,.lst ys=>do fits (xs.length+ys.length);pure (.lst (xs++ys))
 | .str x,.str y=>do fits (x.length+y.length);pure (.str (x++y))
 | _,_=>M.bad
theorem zaM:OpR X (binaryOp .Add) (zee X.K E zdo):=by
 refine OpR.imp (zsC.or (zm9.or (zo8.or (zsr.or zj1)))) fun x y H Q ⟨ι,h,d1,d2,r1,r2,hr,q⟩=> ?_
 unfold zdo at q
 split at q
 ·simp only [Rel] at r1 r2
  exact .inl ⟨_,_,r1,r2,Fin.out hr q _ (by simp [Rel])⟩
 ·rename_i xs ys
  right
  obtain ⟨a,vs,e,h1,h2⟩:=zds r1
  obtain ⟨b,ws,e',h1',h2'⟩:=zds r2
  obtain ⟨z,q⟩:=Fin.fits q
  cases xs with
  | nil=>
   simp only [zat] at h2
   subst h2
   exact .inl ⟨a,b,ws,e,e',h1,h1',Fin.out hr q _ (by rw [<- e'];exact r2)⟩
  | cons x0 xr=>
   refine .inr (.inl ⟨a,b,vs,ws,e,e',h1,h1',fun z=> ?_,by rw [<- h2.length, <-h2'.length];exact z,fun z=> ?_,fun z p hp=>zoh hr (h2.append h2') q hp⟩)
   ·subst z
    have:=h2.length
    cases this
   ·subst z
    have:=h2'.length
    cases ys with
    | nil=>rw [List.append_nil] at q;exact Fin.out hr q _ (by rw [<- e];exact r1)
    | cons _ _=>cases this
 ·rename_i xs ys
  right;right;right;left
  simp only [Rel] at r1 r2
  obtain ⟨a,vs,e,h1,h2⟩:=r1
  obtain ⟨b,ws,e',h1',h2'⟩:=r2
  obtain ⟨z,q⟩:=Fin.fits q
  exact ⟨a,b,vs,ws,e,e',h1.1,h1'.1,by rw [<- h2.length, <-h2'.length];exact z,fun p hp=>zqq hr (h2.append h2') q hp⟩
 ·simp only [Rel] at r1 r2
  obtain ⟨z,q⟩:=Fin.fits q
  exact .inr (.inr (.inr (.inr ⟨_,_,r1,r2,z,Fin.out hr q _ (by simp [Rel])⟩)))
 ·exact qa0 q
noncomputable def dII (C:Int->Int->Bool) (g:Int->Int->D) (x y:D):M D:=match x,y with
 | .int i,.int j=>if C i j=true then pure (g i j) else M.bad
 | _,_=>M.bad
theorem znl {f:Value->Value->Sem Value} {C:Int->Int->Bool} {C':Int->Int->Prop} {g:Int->Int->V} {g':Int->Int->D} (ho:OpR X f (rI C' g)) (hc: ∀ i j,C i j=true->C' i j) (hg: ∀ i j ι H,Rel X.K ι H (g' i j) (g i j)):OpR X f (zee X.K E (dII C g')):=by
 refine OpR.imp ho fun x y H Q ⟨ι,h,d1,d2,r1,r2,hr,q⟩=> ?_
 unfold dII at q
 split at q
 ·simp only [Rel] at r1 r2
  obtain ⟨c,q⟩:=Fin.guard q
  exact ⟨_,_,r1,r2,hc _ _ c,Fin.out hr q _ (hg _ _ _ _)⟩
 ·exact qa0 q
theorem zhR {f:Value->Value->Sem Value} {g:Int->Int->V} {g':Int->Int->D} (ho:OpR X f (rI0 g)) (hg: ∀ i j ι H,Rel X.K ι H (g' i j) (g i j)):OpR X f (zee X.K E (dII (fun _ _=>true) g')):=by
 refine OpR.imp ho fun x y H Q ⟨ι,h,d1,d2,r1,r2,hr,q⟩=> ?_
 unfold dII at q
 split at q
 ·simp only [Rel] at r1 r2
  obtain ⟨c,q⟩:=Fin.guard q
  exact ⟨_,_,r1,r2,Fin.out hr q _ (hg _ _ _ _)⟩
 ·exact qa0 q
noncomputable def zqK:=dII (fun _ _=>true) fun i j=> .int (i - j)
theorem zmk:OpR X (binaryOp .Sub) (zee X.K E zqK):=zhR zru fun _ _ _ _=>by simp [Rel]
noncomputable def zbi (i:Int):Bool:=decide (-(2^64)<i) && decide (i<2^64)
theorem zc7 {i:Int} (h:zbi i=true): -(2^64)<i/\i<2^64:=by unfold zbi at h;simpa using h
theorem zmN:OpR X (binaryOp .FloorDiv) (rI (fun _ j=>0<j/\j<2^64) fun i j=> .int (i / j)):=opI fun i j _ _ _ _ _ hc q=>by
 refine floordiv_int (by omega) (by rw [Int.fdiv_eq_ediv_of_nonneg _ (by omega)];exact q) (.inl (PyProof.noPylong_of_log2 ?_))
 have h1:j.natAbs<2^64:=by omega
 have h0:j.natAbs≠0:=by omega
 exact Nat.lt_trans ((Nat.log2_lt h0).mpr h1) (by decide)
noncomputable def zp7:=dII (fun _ j=>decide (0<j) && decide (j<2^64)) fun i j=> .int (i / j)
theorem zm8:OpR X (binaryOp .FloorDiv) (zee X.K E zp7):=znl zmN (fun i j h=>by simpa using h) fun _ _ _ _=>by simp [Rel]
noncomputable def zrM:=dII (fun _ j=>decide (0<j)) fun i j=> .int (i % j)
theorem ziq:OpR X (binaryOp .Mod) (zee X.K E zrM):=znl zra (fun i j h=>by simpa using h) fun _ _ _ _=>by simp [Rel]
noncomputable def ztM (i j:Int):Bool:=decide (0<=j) && decide (j<=1000000) && decide (i.natAbs<2^64)
noncomputable def zoK:=dII ztM fun i j=> .int (i^j.toNat)
theorem zm6 {i j:Int} (h:ztM i j=true):zuj i j:=by unfold ztM at h;simpa [zuj,and_assoc] using h
theorem zmn:OpR X (binaryOp .Pow) (zee X.K E zoK):=znl zsM (fun _ _=>zm6) fun _ _ _ _=>by simp [Rel]
noncomputable def zu1:=dII (fun _ _=>true) fun i j=> .int (Builtin.bitAnd i j)
noncomputable def dLt:=dII (fun _ _=>true) fun i j=> .bl (decide (i<j))
theorem zfI:OpR X (compareOp .Lt) (zee X.K E dLt):=zhR ztX fun _ _ _ _=>by simp [Rel]
noncomputable def dLe:=dII (fun _ _=>true) fun i j=> .bl (decide (i<=j))
theorem zlM:OpR X (compareOp .LtE) (zee X.K E dLe):=zhR zug fun _ _ _ _=>by simp [Rel]
noncomputable def dGt:=dII (fun _ _=>true) fun i j=> .bl (decide (j<i))
theorem zom:OpR X (compareOp .Gt) (zee X.K E dGt):=zhR ztV fun _ _ _ _=>by simp [Rel]
noncomputable def dGe:=dII (fun _ _=>true) fun i j=> .bl (decide (j<=i))
theorem zsg:OpR X (compareOp .GtE) (zee X.K E dGe):=zhR ztR fun _ _ _ _=>by simp [Rel]
noncomputable def zmr:D->M D
 | .int i=>pure (.int (-i))
 | _=>M.bad
theorem zro {a:Expr} {pos:Pos} {fa:Sd->M D} (ha:SE X E a fa):SE X E (.UnaryOp .USub a pos) (fun sd=>do let x<-fa sd;zmr x):=by
 refine PE.imp (zsd zn3 ha) fun σ H Q ⟨ι,h,sd,L,hh,q⟩=>⟨ι,h,sd,L,hh,Fin.bind q fun d h1 ι1 H1 e1 s1 hr1 q1 v rv=> ?_⟩
 cases d with
 | int i=>simp only [Rel] at rv;exact ⟨i,rv,Fin.out hr1 q1 _ (by simp [Rel])⟩
 | _=>exact qa0 q1
mutual
noncomputable def pd:D->Option PyData
 | .non=>some .none
 | .bl b=>some (.bool b)
 | .int i=>some (.int i)
 | .str x=>some (.str x)
 | .tup xs=>(pdL xs).map .tuple
 | .lst xs=>(pdL xs).map .list
 | .scr xs=>(pdL xs).map .list
 | _=>none
noncomputable def pdL:List D->Option (List PyData)
 | []=>some []
 | x::xs=>match pd x,pdL xs with
  | some a,some r=>some (a::r)
  | _,_=>none
end
mutual
theorem zfO {pins:List (Addr×Obj)} {σ:L2.St} {H:Hp} {s:Shared} {ι:Io} (I:Inv X pins σ H s): ∀ {d:D} {v:V} {u:Value} {p:PyData},Rel X.K ι H d v->zb5 v u->pd d=some p-> ∃ as,Reads s.heap u p as
 | .non,v,u,p,r,ru,e=>by simp only [Rel] at r;subst r;cases ru;cases e;exact ⟨_,.none⟩
 | .bl b,v,u,p,r,ru,e=>by simp only [Rel] at r;subst r;cases ru;cases e;exact ⟨_,.bool _⟩
 | .int i,v,u,p,r,ru,e=>by simp only [Rel] at r;subst r;obtain ⟨t,rfl⟩:=ru;cases e;exact ⟨_,.int _ _⟩
 | .str i,v,u,p,r,ru,e=>by simp only [Rel] at r;subst r;obtain ⟨t,rfl⟩:=ru;cases e;exact ⟨_,.str _ _⟩
 | .tup ds,v,u,p,r,ru,e=>by
  obtain ⟨a,vs,rfl,h1,h2⟩:=zds r
  cases ru
  obtain ⟨its,rv,pl,_⟩:=I.tuple h1
  obtain ⟨o,ho,hc,n,hd⟩:=pl
  unfold pd at e
  cases z:pdL ds with
  | none=>rw [z] at e;cases e
  | some ps=>
   rw [z] at e;cases e
   obtain ⟨as,q⟩:=zh6 I h2 rv z
   exact ⟨_,.tuple ho hc hd (by simpa using q)⟩
 | .lst ds,v,u,p,r,ru,e=>by
  obtain ⟨a,vs,rfl,h1,h2⟩:=zfM r
  cases ru
  obtain ⟨its,rv,pl,_⟩:=I.list h1
  obtain ⟨o,ho,hc,n,hd⟩:=pl.isList
  unfold pd at e
  cases z:pdL ds with
  | none=>rw [z] at e;cases e
  | some ps=>
   rw [z] at e;cases e
   obtain ⟨as,q⟩:=zh6 I h2 rv z
   exact ⟨_,.list ho hc hd (by simpa using q)⟩
 | .scr ds,v,u,p,r,ru,e=>by
  obtain ⟨a,vs,rfl,h1,h2⟩:=zkY r
  cases ru
  obtain ⟨its,rv,pl,_⟩:=I.list h1
  obtain ⟨o,ho,hc,n,hd⟩:=pl.isList
  unfold pd at e
  cases z:pdL ds with
  | none=>rw [z] at e;cases e
  | some ps=>
   rw [z] at e;cases e
   obtain ⟨as,q⟩:=zh6 I h2 rv z
   exact ⟨_,.list ho hc hd (by simpa using q)⟩
 | .cel n,_,_,_,_,_,e=>by cases e
 | .set xs,_,_,_,_,_,e=>by cases e
 | .dct,_,_,_,_,_,e=>by cases e
 | .fn _,_,_,_,_,_,e=>by cases e
 | .exn _,_,_,_,_,_,e=>by cases e
theorem zh6 {pins:List (Addr×Obj)} {σ:L2.St} {H:Hp} {s:Shared} {ι:Io} (I:Inv X pins σ H s): ∀ {ds:List D} {vs:List V} {us:List Value} {ps:List PyData},zat X.K ι H ds vs->za7 vs us->pdL ds=some ps-> ∃ as,ReadsAll s.heap us ps as
 | [],vs,us,ps,r,ru,e=>by simp only [zat] at r;subst r;cases ru;cases e;exact ⟨_,.nil⟩
 | d::ds,vs,us,ps,r,ru,e=>by
  simp only [zat] at r
  obtain ⟨v,vr,rfl,r1,r2⟩:=r
  cases ru with
  | cons ru1 ru2=>
   unfold pdL at e
   cases z:pd d with
   | none=>rw [z] at e;cases e
   | some a=>
    cases z2:pdL ds with
    | none=>rw [z,z2] at e;cases e
    | some b=>
     rw [z,z2] at e
     cases e
     obtain ⟨as,q1⟩:=zfO I r1 ru1 z
     obtain ⟨bs,q2⟩:=zh6 I r2 ru2 z2
     exact ⟨_,.cons q1 q2⟩
end
noncomputable def zg9 (a b:PyData):Bool:=a.canLay0 && b.canLay0 && decide (min a.depth b.depth<=60)
noncomputable def zlL (neg:Bool) (x y:D):M D:=match pd x,pd y with
 | some a,some b=>if zg9 a b=true then pure (.bl (if neg then !PyData.eqv a b else PyData.eqv a b)) else M.bad
 | _,_=>M.bad
noncomputable def dEq:=zlL false
noncomputable def dNe:=zlL true
theorem zju {a b:PyData} (h:zg9 a b=true):a.canLay0=true/\b.canLay0=true/\min a.depth b.depth<=60:=by unfold zg9 at h;simpa [and_assoc] using h
theorem zje {K:W.Frag} {ι:Io} {H:Hp} {h:Hh} {neg:Bool} {x y:D} {P:D->Io->Hp->Prop} (q:Fin K E ι H (zlL neg x y h) P): ∃ a b,pd x=some a/\pd y=some b/\zg9 a b=true/\Fin K E ι H ((pure (.bl (if neg then !PyData.eqv a b else PyData.eqv a b)):M D) h) P:=by
 unfold zlL at q
 cases e1:pd x with
 | none=>rw [e1] at q;exact qa0 q
 | some a=>
  cases e2:pd y with
  | none=>rw [e1,e2] at q;exact qa0 q
  | some b=>
   rw [e1,e2] at q
   obtain ⟨c,q⟩:=Fin.guard q
   exact ⟨a,b,rfl,rfl,c,q⟩
theorem zcn (hu:X.A.units+60<cLine):OpR X (compareOp .Eq) (zee X.K E dEq):=by
 intro pins s σ H x y v u Q I rx ry ⟨ι,h,d1,d2,r1,r2,hr,q⟩
 obtain ⟨a,b,e1,e2,c,q2⟩:=zje q
 obtain ⟨c1,c2,c3⟩:=zju c
 obtain ⟨as,ra⟩:=zfO I r1 rx e1
 obtain ⟨bs,rb⟩:=zfO I r2 ry e2
 exact SeqAt.compareEq_reads ra rb c1 c2 (by omega) ⟨.bl _,H,I,rfl,Fin.out hr q2 (.bl _) (by simp [Rel])⟩
theorem zeA (hu:X.A.units+60<cLine):OpR X (compareOp .NotEq) (zee X.K E dNe):=by
 intro pins s σ H x y v u Q I rx ry ⟨ι,h,d1,d2,r1,r2,hr,q⟩
 obtain ⟨a,b,e1,e2,c,q2⟩:=zje q
 obtain ⟨c1,c2,c3⟩:=zju c
 obtain ⟨as,ra⟩:=zfO I r1 rx e1
 obtain ⟨bs,rb⟩:=zfO I r2 ry e2
 exact SeqAt.compareNe_reads ra rb c1 c2 (by omega) ⟨.bl _,H,I,rfl,Fin.out hr q2 (.bl _) (by simp [Rel])⟩
noncomputable def zjX (a:PyData) (xs:List PyData):Bool:=a.canLay0 && PyData.canLayAll0 xs && decide (min (PyData.depthAll xs) a.depth<=50)
theorem zjD {a:PyData} {xs:List PyData} (h:zjX a xs=true):a.canLay0=true/\PyData.canLayAll0 xs=true/\min (PyData.depthAll xs) a.depth<=50:=by unfold zjX at h;simpa [and_assoc] using h
noncomputable def zke (neg:Bool) (x c:D):M D:=match pd x,c with
 | some a,.tup ds=>match pdL ds with
  | some xs=>if zjX a xs=true then pure (.bl (if neg then !xs.any (fun y=>PyData.eqv y a) else xs.any fun y=>PyData.eqv y a)) else M.bad
  | none=>M.bad
 | some a,.lst ds=>match pdL ds with
  | some xs=>if zjX a xs=true then pure (.bl (if neg then !xs.any (fun y=>PyData.eqv y a) else xs.any fun y=>PyData.eqv y a)) else M.bad
  | none=>M.bad
 | _,_=>M.bad
noncomputable def dIn:=zke false
noncomputable def zd0:=zke true
theorem zja {K:W.Frag} {ι:Io} {H:Hp} {h:Hh} {neg:Bool} {x c:D} {P:D->Io->Hp->Prop} (q:Fin K E ι H (zke neg x c h) P): ∃ a ds xs,pd x=some a/\pdL ds=some xs/\(c= .tup ds\/c= .lst ds)/\zjX a xs=true/\
  Fin K E ι H ((pure (.bl (if neg then !xs.any (fun y=>PyData.eqv y a) else xs.any fun y=>PyData.eqv y a)):M D) h) P:=by
 unfold zke at q
 cases e1:pd x with
 | none=>rw [e1] at q;exact qa0 q
 | some a=>
  rw [e1] at q
  cases c with
  | tup ds=>
   dsimp only at q
   cases e2:pdL ds with
   | none=>rw [e2] at q;exact qa0 q
   | some xs=>
    rw [e2] at q
    obtain ⟨c,q⟩:=Fin.guard q
    exact ⟨a,ds,xs,rfl,e2,.inl rfl,c,q⟩
  | lst ds=>
   dsimp only at q
   cases e2:pdL ds with
   | none=>rw [e2] at q;exact qa0 q
   | some xs=>
    rw [e2] at q
    obtain ⟨c,q⟩:=Fin.guard q
    exact ⟨a,ds,xs,rfl,e2,.inr rfl,c,q⟩
  | _=>exact qa0 q
theorem zfv (hu:X.A.units+60<cLine):OpR X (compareOp .In) (zee X.K E dIn):=by
 intro pins s σ H x y v u Q I rx ry ⟨ι,h,d1,d2,r1,r2,hr,q⟩
 obtain ⟨a,ds,xs,e1,e2,ec,c,q2⟩:=zja q
 obtain ⟨c1,c2,c3⟩:=zjD c
 obtain ⟨as,ra⟩:=zfO I r1 rx e1
 rcases ec with rfl | rfl
 ·obtain ⟨bs,rb⟩:=zfO I r2 ry (p:= .tuple xs) (by unfold pd;rw [e2];rfl)
  exact SeqAt.in_tuple_reads rb ra c2 c1 (by omega) ⟨.bl _,H,I,rfl,Fin.out hr q2 (.bl _) (by simp [Rel])⟩
 ·obtain ⟨bs,rb⟩:=zfO I r2 ry (p:= .list xs) (by unfold pd;rw [e2];rfl)
  exact SeqAt.in_list_reads rb ra c2 c1 (by omega) ⟨.bl _,H,I,rfl,Fin.out hr q2 (.bl _) (by simp [Rel])⟩
theorem zc0 (hu:X.A.units+60<cLine):OpR X (compareOp .NotIn) (zee X.K E zd0):=by
 intro pins s σ H x y v u Q I rx ry ⟨ι,h,d1,d2,r1,r2,hr,q⟩
 obtain ⟨a,ds,xs,e1,e2,ec,c,q2⟩:=zja q
 obtain ⟨c1,c2,c3⟩:=zjD c
 obtain ⟨as,ra⟩:=zfO I r1 rx e1
 rcases ec with rfl | rfl
 ·obtain ⟨bs,rb⟩:=zfO I r2 ry (p:= .tuple xs) (by unfold pd;rw [e2];rfl)
  exact SeqAt.notIn_tuple_reads rb ra c2 c1 (by omega) ⟨.bl _,H,I,rfl,Fin.out hr q2 (.bl _) (by simp [Rel])⟩
 ·obtain ⟨bs,rb⟩:=zfO I r2 ry (p:= .list xs) (by unfold pd;rw [e2];rfl)
  exact SeqAt.notIn_list_reads rb ra c2 c1 (by omega) ⟨.bl _,H,I,rfl,Fin.out hr q2 (.bl _) (by simp [Rel])⟩
end
end L3
namespace HT
open PySem PySem.Spec PyProof.Rows L2
section
variable {prog:Program} {w:World} {A:Around} {E:Value->Shared->Prop} {s:Shared}
theorem zd2 {t sl:Addr} {items:Array Value} {vl vu:Value} {lo hi:Option Int} {Q:Value->Shared->Prop} (ht:IsTup s.heap t items) (hs:s.heap.IsSliceOf sl vl vu .none) (pl:IsPart vl lo) (pu:IsPart vu hi)
  (hw:sIx items.size 0 lo=0/\sIx items.size items.size hi=items.size) (h:Q (.ref t) s):wpAny (model prog w) A (getItem (.ref t) (.ref sl)) Q E s:=by
 obtain ⟨os,hos,hcs,hds⟩:=id hs
 have hTs:s.TypeIs (.ref sl) "slice":=⟨os,hos,hcs⟩
 unfold getItem
 try with_reducible refine qaO ?_
 first | refine qaW (qaX ?_) | skip
 refine qaW (wpAny_sequenceKey ht.typeIs (by decide) ?_)
 refine qaW (wpAny_callSpecial?_slot (name:=Str.ofString "__getitem__") ht.typeIs PyProof.Rows.slot_tuple_getitem
   (wpAny_call_entry PyProof.Rows.slot_tuple_getitem ht.typeIs entry_tuple_getitem ?_ (args_tuple_getitem _ _)))
 show wpAny _ _ (Builtin.Tuple.tupleItemsOf (.ref t)>>=_) _ _ s
 refine qaW (tupleItemsOf_ ht ?_)
 refine qaW (wpAny_typeOf hTs ?_)
 rw [qa4 (by decide)]
 refine qaW (zdk hs pl pu ?_)
 show wpAny _ _ (if (((sIx items.size 0 lo:Nat):Int)==0 && (1:Int)==1 && (sIx items.size items.size hi - sIx items.size 0 lo)==items.size)=true then _ else _) _ _ s
 rw [hw.1,hw.2,qa4 (by simp)]
 refine qaW (m:=Builtin.Tuple.tupleIsExact _) (qaW (wpAny_typeOf ht.typeIs (qaX ?_)))
 rw [qa4 (by decide)]
 refine qaW (wpAny_rule ?_)
 exact qaX ⟨_,rfl,qaX h⟩
theorem ze5 {sl:Addr} {t:Tok} {n:Nat} {Q:Int×Int×Nat->Shared->Prop} (hs:s.heap.IsSliceOf sl .none .none (.int (-1) t))
  (h:Q ((n:Int) - 1, -1,n) s):wpAny (model prog w) A (Builtin.Slice.sliceApplied (.ref sl) (pure (n:Int))) Q E s:=by
 obtain ⟨os,hos,hcs,hds⟩:=id hs
 unfold Builtin.Slice.sliceApplied Builtin.Slice.sliceFields
 refine qaW (qaW (wpAny_field hos hds (x:= .none) rfl (qaW (wpAny_field hos hds (x:= .none) rfl (qaW (wpAny_field hos hds (x:= .int (-1) t) rfl (qaX ?_)))))))
 refine qaW (slicePart_int ?_)
 show wpAny _ _ (if ((-1:Int)==0)=true then _ else _) _ _ s
 rw [qa5 (by decide)]
 refine qaW (slicePart_none (qaW (slicePart_none (qaW (qaX ?_)))))
 show wpAny _ _ (pure ((n:Int) - 1,(-1:Int),Builtin.Slice.slicePlaces ((n:Int) - 1) (-1) (-1))) _ _ s
 have e:Builtin.Slice.slicePlaces ((n:Int) - 1) (-1) (-1)=n:=by
  unfold Builtin.Slice.slicePlaces
  rw [qa5 (by decide)]
  have:(-(-1):Int)=1:=by decide
  rw [this,Int.ediv_one]
  split<;>omega
 rw [e]
 exact qaX h
theorem zmT (xs:Array Value):((List.range xs.size).filterMap fun (m:Nat)=>xs[((xs.size:Int) - 1+(m:Int)*(-1)).toNat]?).toArray=xs.toList.reverse.toArray:=by
 congr 1
 have e: ∀ n,n<=xs.size->(List.range n).filterMap (fun (m:Nat)=>xs[((xs.size:Int) - 1+(m:Int)*(-1)).toNat]?)=(xs.toList.reverse).take n:=by
  intro n
  induction n with
  | zero=>intro _;simp
  | succ n ih=>
   intro hn
   rw [List.range_succ,List.filterMap_append,ih (by omega),List.take_add_one]
   congr 1
   have e1:((xs.size:Int) - 1+(n:Int)*(-1)).toNat=xs.size - 1 - n:=by omega
   rw [qat,List.filterMap_nil,e1]
   have h1:xs.size - 1 - n<xs.size:=by omega
   rw [List.getElem?_reverse (by simp;omega)]
   simp [h1]
 rw [e _ (qaV _),List.take_of_length_le (by simp)]
theorem zeU {t sl:Addr} {items:Array Value} {tk:Tok} {Q:Value->Shared->Prop} (ht:IsTup s.heap t items) (hs:s.heap.IsSliceOf sl .none .none (.int (-1) tk))
  (h:Q (.ref s.heap.objs.size) {s with heap:=s.heap.push {cls:= .type "tuple",data:= .seq items.toList.reverse.toArray}})
  (hsz:items.size<=sizeLine):wpAny (model prog w) A (getItem (.ref t) (.ref sl)) Q E s:=by
 have htake:sizeOk (.seq items.toList.reverse.toArray):=by
  show items.toList.reverse.toArray.size<=sizeLine
  simpa using hsz
 obtain ⟨os,hos,hcs,hds⟩:=id hs
 have hTs:s.TypeIs (.ref sl) "slice":=⟨os,hos,hcs⟩
 unfold getItem
 try with_reducible refine qaO ?_
 first | refine qaW (qaX ?_) | skip
 refine qaW (wpAny_sequenceKey ht.typeIs (by decide) ?_)
 refine qaW (wpAny_callSpecial?_slot (name:=Str.ofString "__getitem__") ht.typeIs PyProof.Rows.slot_tuple_getitem
   (wpAny_call_entry PyProof.Rows.slot_tuple_getitem ht.typeIs entry_tuple_getitem ?_ (args_tuple_getitem _ _)))
 show wpAny _ _ (Builtin.Tuple.tupleItemsOf (.ref t)>>=_) _ _ s
 refine qaW (tupleItemsOf_ ht ?_)
 refine qaW (wpAny_typeOf hTs ?_)
 rw [qa4 (by decide)]
 refine qaW (ze5 hs ?_)
 show wpAny _ _ (if ((((items.size:Int) - 1)==0 && (-1:Int)==1 && items.size==items.size)=true) then _ else _) _ _ s
 rw [qa5 (by simp),zmT]
 first
  | exact qaW (m:=Builtin.Tuple.tupleExact _) (qaC (qaX ⟨_,rfl,qaX h⟩) htake)
  | exact qaW (m:=Builtin.Tuple.tupleExact _) (qaC (qaW (qaX (qaX ⟨_,rfl,qaX h⟩))) htake)
  | exact qaW (qaW (m:=Builtin.Tuple.tupleExact _) (qaC (qaX (qaX ⟨_,rfl,qaX h⟩)) htake))
  | exact qaW (qaW (m:=Builtin.Tuple.tupleExact _) (qaC (qaX ⟨_,rfl,qaX h⟩) htake))
end
end HT
namespace L2
open PySem PySem.Spec PyProof.Rows
section
variable {X:Cx} {e:Expr} {te:TE} {pos p2:Pos}
theorem zpA:SlR X (fun x lo hi H Q=> ∃ a xs,x= .ref a/\SqT X.K H a xs/\(HT.sIx xs.length 0 lo=0/\HT.sIx xs.length xs.length hi=xs.length)/\Q (.ref a) H):=by
 intro pins s σ H x v vl vu lo hi sl Q I rx hs pl pu h
 obtain ⟨a,xs,rfl,hx,hw,q⟩:=h
 cases rx
 obtain ⟨its,r,ht,hz⟩:=I.tuple hx
 have hlen:its.toArray.size=xs.length:=by rw [qaA];exact r.length.symm
 refine ⟨"tuple",_,PyProof.Rows.slot_tuple_getitem.lookup,ht.typeIs,?_⟩
 exact HT.zd2 ht hs pl pu (by rw [hlen];exact hw) ⟨.ref a,H,I,rfl,q⟩
theorem zsc {st:Expr} (he:PE X e te) (hst:PE X st (tC (.int (-1)))):PE X (.Subscript e (.Slice none none (some st) p2) pos) (fun σ H Q=>te σ H fun x H1=> ∃ a xs,x= .ref a/\SqT X.K H1 a xs/\ ∀ p,H1 p=none->Q (.ref p) (upd H1 p (.tup xs.reverse))):=by
 intro pins s σ H Q I h
 refine Subscript_ (thn (he pins s σ H _ I h) fun v s1 ⟨x,H1,I1,r1,q1⟩=> ?_)
 obtain ⟨a,xs,rfl,hx,q⟩:=q1
 cases r1
 refine wpAny_Slice ?_
 rw [evalPart_none]
 refine qaX (qaX ?_)
 rw [evalPart_some]
 refine thn (hst pins s1 σ H1 (fun z Hz=>z= .int (-1)/\Hz=H1) I1 ⟨rfl,rfl⟩) fun u s2 ⟨z,Hz,I2,rz,ez,eH⟩=> ?_
 subst ez eH
 obtain ⟨t,rfl⟩:=rz
 have I4:Inv X pins σ Hz {s2 with heap:=s2.heap.push {cls:= .type "slice",data:= .fields #[.none,.none,.int (-1) t]}}:=I2.kept (t':=s2.toks) fun b ob q=>qag _ q
 obtain ⟨its,r,ht,hz⟩:=I4.tuple hx
 have hlen:its.toArray.size=xs.length:=by rw [qaA];exact r.length.symm
 show wpAny (model X.prog X.w) X.A (subscriptTail e (.Slice none none (some st) p2) (.ref a) (.ref s2.heap.objs.size)) (EP X pins σ Q) X.xe {s2 with heap:=s2.heap.push {cls:= .type "slice",data:= .fields #[.none,.none,.int (-1) t]}}
 refine tail_any (ops:=[.ref a,.ref s2.heap.objs.size]) ht.typeIs PyProof.Rows.slot_tuple_getitem.lookup (HT.zeU ht ⟨_,qar _ rfl,rfl,rfl⟩ ?_ (by rw [hlen];exact hz)) (by with_unfolding_all rfl)
 refine ⟨.ref _,_,I4.laid (t':=s2.toks) (o:= .tup xs.reverse) (fun b ob q=>qag _ q) (qaV _) ?_,rfl,q _ (I4.hok.fresh (qaV _))⟩
 refine ⟨by rw [List.length_reverse];exact hz,its.reverse,r.reverse,?_⟩
 exact IsTup.new _ _
theorem ze4:fillsNumberSlot (.type "tuple") "mul"=pure false:=
 PySem.fillsNumberSlot_seq (id:="tuple.__mul__") (r:=some (.builtin "tuple.__rmul__")) F.slot_tuple_mul.lookup (by decide +kernel) F.slot_tuple_rmul.lookup (by decide +kernel)
theorem zhU:seqRepeat? (.type "tuple")=pure (some (.builtin "tuple.__mul__")):=by
 unfold seqRepeat?
 rw [PySem.seqSlot_of (T:="tuple") (name:="__mul__") (id:="tuple.__mul__") F.slot_tuple_mul.lookup (by decide +kernel),PySem.seqSlot_of (T:="tuple") (name:="__rmul__") (id:="tuple.__rmul__") F.slot_tuple_rmul.lookup (by decide +kernel)]
 rfl
theorem zf9 (k:Int) (t:Tok) (l:Addr) (items:Array Value) (n:Nat) (dd:Option Addr) (sl:Array (Option Value)):
  Meets (Builtin.«int.__rmul__» ⟨[.int k t,.ref l],[]⟩) (fun _ R s=>s.heap.get? l=some {cls:= .type "tuple",dict:=dd,data:= .seq items n,slots:=sl}/\R (.ok (.ret Value.notImplemented)) s):=
 .of_wp fun prog w A R s h=>by obtain ⟨hp,g,d,tk,os⟩:=s;obtain ⟨hl,h⟩:=h;wp_walk;exact ⟨_,rfl,h⟩
theorem zlQ (k:Int) (t:Tok) (l:Addr) (items:Array Value) (n:Nat) (dd:Option Addr) (sl:Array (Option Value)) (hne:items.isEmpty=false) (hk:2<=k) (hk2:k<1000) (hz:items.size*k.toNat<=sizeLine):
  Meets (Builtin.«tuple.__mul__» ⟨[.ref l,.int k t],[]⟩) (fun _ R s=>s.heap.get? l=some {cls:= .type "tuple",dict:=dd,data:= .seq items n,slots:=sl}/\
    R (.ok (.ret (.ref s.heap.objs.size))) {s with heap:=s.heap.push {cls:= .type "tuple",data:= .seq ((List.replicate k.toNat items).foldl (· ++ ·) #[])}}):=
 .of_wp fun prog w A R s h=>by
  obtain ⟨hp,g,d,tk,os⟩:=s;obtain ⟨hl,h⟩:=h
  unfold Builtin.«tuple.__mul__» 
  wp_walk
  have hk63: ¬(decide (k< -2^63) || decide (k>=2^63))=true:=by
   rw [Bool.or_eq_true,qaD,qaD]
   omega
  rw [qa5 hk63]
  dsimp only
  have ht:IsTup hp l items:=⟨_,hl,rfl,_,rfl⟩
  refine qaW (tupleItemsOf_ ht ?_)
  have h1: ¬(items.isEmpty || k==1)=true:=by
   rw [hne,Bool.false_or,beq_iff_eq]
   omega
  rw [qa5 h1]
  have h2: ¬(decide (k<=0) || items.isEmpty)=true:=by
   rw [hne,Bool.or_false,qaD]
   omega
  rw [qa5 h2]
  have hk0:((k.toNat:Nat):Int)=k:=Int.toNat_of_nonneg (by omega)
  have hm:((items.size:Nat):Int)*k=((items.size*k.toNat:Nat):Int):=by rw [Int.natCast_mul,hk0]
  have hsl:(sizeLine:Nat)=16777216:=by decide
  have h3: ¬((items.size:Int)*k>(2^63 - 1) / 8):=by
   rw [hm]
   omega
  rw [qa5 h3]
  have h4: ¬Builtin.Tuple.tupleTooMany ((items.size:Int)*k)=true:=by
   unfold Builtin.Tuple.tupleTooMany
   rw [hm,qaD]
   omega
  rw [qa5 h4]
  have hsz:sizeOk (.seq (List.foldl (fun x1 x2=>x1++x2) #[] (List.replicate k.toNat items))):=by
   show (List.foldl (fun x1 x2=>x1++x2) #[] (List.replicate k.toNat items)).size<=sizeLine
   have e: ∀ (m:Nat) (acc:Array Value),(List.foldl (fun x1 x2=>x1++x2) acc (List.replicate m items)).size=acc.size+m*items.size:=by
    intro m
    induction m with
    | zero=>intro acc;simp
    | succ m ih=>intro acc;rw [List.replicate_succ,List.foldl_cons,ih,Array.size_append,Nat.succ_mul];omega
   rw [e,Nat.mul_comm]
   simpa using hz
  exact qaW (m:=Builtin.Tuple.tupleExact _) (qaC (qaX ⟨_,rfl,h⟩) hsz)
theorem zpr:OpR X (binaryOp .Mult) (fun x y H Q=> ∃ a k xs,x= .ref a/\y= .int k/\SqT X.K H a xs/\xs≠[]/\2<=k/\k<1000/\xs.length*k.toNat<=sizeLine/\ ∀ p,H p=none->Q (.ref p) (upd H p (.tup (List.replicate k.toNat xs).flatten))):=by
 intro pins s σ H x y v u Q I rx ry h
 obtain ⟨a,k,xs,rfl,rfl,hx,hne,h1,h2,hz,q⟩:=h
 cases rx
 obtain ⟨t,rfl⟩:=ry
 obtain ⟨its,r,ht,_⟩:=I.tuple hx
 have hl:=r.length
 obtain ⟨⟨cls,dd,data,sl⟩,ho,hc,n,hd⟩:=id ht
 simp only at hc hd
 subst hc hd
 have hemp:its.toArray.isEmpty=false:=by
  cases its with
  | nil=>cases r;exact absurd rfl hne
  | cons _ _=>simp
 refine wpAny_binaryOp_repeat_ref (T:="tuple") (U:="int") (by decide) ⟨_,ho,rfl⟩ (fun s'=>typeIs_int s' k t) ze4 F.fills_int_mul F.slot_int_rmul zhU F.slot_int_index.lookup
  (call_meets F.slot_int_rmul (typeIs_int s k t) F.entry_int_rmul (F.args_int_rmul_2 _ _) (zf9 k t a its.toArray n dd sl)
    ⟨ho,rfl,⟨_,ho,rfl⟩,call_meets F.slot_tuple_mul ⟨_,ho,rfl⟩ F.entry_tuple_mul (F.args_tuple_mul_2 _ _) (zlQ k t a its.toArray n dd sl hemp h1 h2 (by rw [qaA, <-hl];exact hz)) ⟨ho,?_⟩⟩)
 have hnew:List.foldl (fun x1 x2=>x1++x2) #[] (List.replicate k.toNat its.toArray)=(List.replicate k.toNat its).flatten.toArray:=by
  have:=zhS its k.toNat []
  rw [List.nil_append] at this
  exact this
 rw [hnew]
 refine ⟨.ref _,_,I.laid (t':=s.toks) (o:= .tup (List.replicate k.toNat xs).flatten) (fun b ob q=>qag _ q) (qaV _) ?_,rfl,q _ (I.hok.fresh (qaV _))⟩
 exact ⟨by rw [zpe,Nat.mul_comm];exact hz,_,r.rep k.toNat,IsTup.new _ _⟩
end
end L2
namespace LT
open PySem PySem.Spec PyProof.Rows
noncomputable abbrev Up (xs:Array Nat):Prop:=xs.toList.Pairwise (· < ·)
theorem Up.lt {xs:Array Nat} (h:Up xs) {i j:Nat} {a b:Nat} (hi:xs[i]? = some a) (hj:xs[j]? = some b) (hij:i<j):a<b:=by
 have hi':xs.toList[i]? = some a:=by simpa using hi
 have hj':xs.toList[j]? = some b:=by simpa using hj
 obtain ⟨h1,e1⟩:=qac.mp hi'
 obtain ⟨h2,e2⟩:=qac.mp hj'
 have:=List.pairwise_iff_getElem.mp h i j h1 h2 hij
 rw [e1,e2] at this
 exact this
theorem zg5 {xs:Array Nat} (h:Up xs) (j:Nat): ∀ (fuel lo hi:Nat),hi - lo<=fuel->lo<=hi->hi<=xs.size->(∀ i a,i<lo->xs[i]? = some a->a<j)->(∀ i a,hi<=i->xs[i]? = some a->j<=a)->
  let r:=SetTable.below.go xs j fuel lo hi
  r<=xs.size/\(∀ i a,i<r->xs[i]? = some a->a<j)/\(∀ i a,r<=i->xs[i]? = some a->j<=a)
 | 0,lo,hi,hf,hl,hs,h1,h2=>by
  have e:lo=hi:=by omega
  subst e
  exact ⟨hs,h1,h2⟩
 | fuel+1,lo,hi,hf,hl,hs,h1,h2=>by
  unfold SetTable.below.go
  by_cases hlt:lo<hi
  ·rw [qa4 hlt]
   have hm:(lo+hi) / 2<xs.size:=by omega
   have em:xs[(lo+hi) / 2]? = some xs[(lo+hi) / 2]:=by simp [hm]
   have eg:xs.getD ((lo+hi) / 2) j=xs[(lo+hi) / 2]:=by simp [Array.getD,hm]
   dsimp only
   by_cases hc:xs.getD ((lo+hi) / 2) j<j
   ·rw [qa4 hc]
    refine zg5 h j fuel _ hi (by omega) (by omega) hs (fun i a hi' e=> ?_) h2
    rw [eg] at hc
    by_cases z:i=(lo+hi) / 2
    ·subst z;rw [em] at e;cases e;exact hc
    ·exact Nat.lt_trans (h.lt e em (by omega)) hc
   ·rw [qa5 hc]
    refine zg5 h j fuel lo _ (by omega) (by omega) (by omega) h1 fun i a hi' e=> ?_
    rw [eg] at hc
    by_cases z:i=(lo+hi) / 2
    ·subst z;rw [em] at e;cases e;omega
    ·have:=h.lt em e (by omega)
     omega
  ·rw [qa5 hlt]
   have e:lo=hi:=by omega
   subst e
   exact ⟨hs,h1,h2⟩
theorem zg2 {xs:Array Nat} (h:Up xs) (j:Nat):SetTable.below xs j<=xs.size/\(∀ i a,i<SetTable.below xs j->xs[i]? = some a->a<j)/\(∀ i a,SetTable.below xs j<=i->xs[i]? = some a->j<=a):=
 zg5 h j xs.size 0 xs.size (by omega) (Nat.zero_le _) (qaV _) (fun _ _ z=>absurd z (Nat.not_lt_zero _)) fun i a z e=>by
  have:=(qab.mp e).1
  omega
theorem zgn {xs:Array Nat} (h:Up xs) {k a:Nat} (e:xs[k]? = some a):SetTable.below xs (a+1)=k+1:=by
 obtain ⟨h1,h2,h3⟩:=zg2 h (a+1)
 by_cases c:SetTable.below xs (a+1)<=k
 ·have:=h3 k a c e
  omega
 ·by_cases c2:k+1<SetTable.below xs (a+1)
  ·have hl:k+1<xs.size:=by omega
   have e2:xs[k+1]? = some xs[k+1]:=by simp [hl]
   have a1:=h2 (k+1) _ c2 e2
   have a2:=h.lt e e2 (by omega)
   omega
  ·omega
theorem zge {xs:Array Nat} (h:Up xs):SetTable.below xs 0=0:=by
 obtain ⟨h1,h2,h3⟩:=zg2 h 0
 by_cases c:SetTable.below xs 0=0
 ·exact c
 ·have hl:0<xs.size:=by omega
  exact absurd (h2 0 _ (by omega) (show xs[0]? = some xs[0] by simp [hl])) (Nat.not_lt_zero _)
theorem zlo {xs:Array Nat} (h:Up xs) {j:Nat} (hn:xs[SetTable.below xs j]? ≠ some j):Up (SetTable.insertAt xs (SetTable.below xs j) j):=by
 obtain ⟨h1,h2,h3⟩:=zg2 h j
 show (SetTable.insertAt xs (SetTable.below xs j) j).toList.Pairwise (· < ·)
 rw [SetTable.toList_insertAt]
 rw [qaq]
 have hsplit:xs.toList.take (SetTable.below xs j)++xs.toList.drop (SetTable.below xs j)=xs.toList:=List.take_append_drop ..
 have hp:(xs.toList.take (SetTable.below xs j)++xs.toList.drop (SetTable.below xs j)).Pairwise (· < ·):=by rw [hsplit];exact h
 obtain ⟨p1,p2,p3⟩:=qaq.mp hp
 have tk: ∀ a∈xs.toList.take (SetTable.below xs j),a<j:=fun a ha=>by
  obtain ⟨i,hi⟩:=List.mem_iff_getElem?.mp ha
  rw [List.getElem?_take] at hi
  split at hi
  ·rename_i hlt
   exact h2 i a hlt (by simpa using hi)
  ·cases hi
 have dr: ∀ a∈xs.toList.drop (SetTable.below xs j),j<a:=fun a ha=>by
  obtain ⟨i,hi⟩:=List.mem_iff_getElem?.mp ha
  rw [List.getElem?_drop] at hi
  have hi':xs[SetTable.below xs j+i]? = some a:=by simpa using hi
  have a1:=h3 _ a (by omega) hi'
  rcases Nat.lt_or_eq_of_le a1 with z | z
  ·exact z
  ·subst z
   exfalso
   cases i with
   | zero=>exact hn hi'
   | succ i=>
    have hl:=(qab.mp hi').1
    have e0:xs[SetTable.below xs j]? = some xs[SetTable.below xs j]:=by
     have:SetTable.below xs j<xs.size:=by omega
     simp [this]
    have b1:=h3 _ _ (qaV _) e0
    have b2:=h.lt e0 hi' (by omega)
    omega
 refine ⟨p1,qay.mpr ⟨dr,p2⟩,fun a ha b hb=> ?_⟩
 rcases qaP.mp hb with z | z
 ·rw [z];exact tk a ha
 ·exact p3 a ha b z
structure ziO (t:SetTable) (led:Bool):Prop where
 up:Up t.place
 nod:t.dummies= #[]
 led:t.led=led
theorem zjh {j:Nat}:SetTable.has #[] j=false:=by
 unfold SetTable.has
 simp
theorem zlC {t:SetTable} {led:Bool} (g:ziO t led) {j:Nat} (h:t.slot j= .empty):t.place[SetTable.below t.place j]? ≠ some j:=fun e=>by
 unfold SetTable.slot at h
 dsimp only at h
 rw [e] at h
 simp at h
theorem zjn {t:SetTable} {led:Bool} (g:ziO t led) (f:Nat->Int) (h:Int): ∀ (fuel:Nat) (p:SetTable.Probe) (j:Nat) (d:Option Nat),p.dummy=none->SetTable.probe.go t f h fuel p=some (.empty j d)->t.slot j= .empty/\d=none
 | 0,_,_,_,_,e=>by cases e
 | fuel+1,p,j,d,hp,e=>by
  unfold SetTable.probe.go at e
  have adv: ∀ q:SetTable.Probe,q.dummy=none->(t.advance q).dummy=none:=fun q hq=>by
   unfold SetTable.advance
   split<;>exact hq
  split at e
  ·rename_i hs
   cases e
   exact ⟨hs,hp⟩
  ·rename_i hs
   exfalso
   unfold SetTable.slot at hs
   dsimp only at hs
   rw [g.nod,zjh] at hs
   split at hs<;>simp at hs
  ·split at e
   ·cases e
   ·exact zjn g f h fuel _ j d (adv p hp) e
theorem zgN {t:SetTable} {led:Bool} (g:ziO t led) {h:Int} {j:Nat} {b:Bool} (e:t.freeSlot h=some (j,b)):t.place[SetTable.below t.place j]? ≠ some j:=by
 unfold SetTable.freeSlot at e
 split at e
 ·rename_i j' d' hpr
  obtain ⟨h1,h2⟩:=zjn g _ _ _ _ _ _ rfl hpr
  subst h2
  cases e
  exact zlC g h1
 ·cases e
theorem zmL (n:Nat):Up (Array.range n):=by
 show (Array.range n).toList.Pairwise (· < ·)
 rw [Array.toList_range]
 exact List.pairwise_lt_range
theorem zcA {t:SetTable} {led:Bool} (g:ziO t led) (n:Nat):ziO (t.standIn n) led:=⟨zmL n,rfl,g.led⟩
theorem zin {t:SetTable} {led:Bool} (g:ziO t led) (es:Array (Int×Value)) (h:Int) (x:Value):ziO (layNew t es h x).2.1 led:=by
 unfold layNew
 split
 ·rename_i slot wasDummy e
  have g2:ziO (t.put slot).1 led:=by
   refine ⟨zlo g.up (zgN g e),?_,g.led⟩
   show (if SetTable.has t.dummies slot then _ else t.dummies)= #[]
   rw [g.nod,zjh]
   rfl
  show ziO ((t.put slot).1.orStandIn _) led
  unfold SetTable.orStandIn
  split
  ·exact g2
  ·exact zcA g2 _
 ·exact zcA g _
theorem zk5 {mask finger moves:Nat} {led plain:Bool} {hs:Array Int} {t:SetTable} {o:Array Nat} (e:SetTable.laid mask finger moves led plain hs=some (t,o)):ziO t led:=by
 unfold SetTable.laid at e
 cases z:SetTable.layClean mask hs with
 | none=>rw [z] at e;cases e
 | some owner=>
  rw [z] at e
  have e:some (({mask,place:=(((List.range (mask+1)).filterMap fun j=>(owner.getD j none).map (j, ·)).map (·.1)).toArray,dummies:= #[],finger,led,moves,plain}:SetTable),_)=some (t,o):=e
  cases e
  refine ⟨?_,rfl,rfl⟩
  show (((List.range (mask+1)).filterMap fun j=>(owner.getD j none).map (j, ·)).map (·.1)).toArray.toList.Pairwise (· < ·)
  rw [List.toList_toArray,List.map_filterMap]
  have sub:List.Sublist ((List.range (mask+1)).filterMap fun j=>((owner.getD j none).map (j, ·)).map (·.1)) (List.range (mask+1)):=by
   generalize List.range (mask+1)=l
   induction l with
   | nil=>exact .slnil
   | cons a r ih=>
    rw [qat]
    cases q:owner.getD a none with
    | none=>exact ih.cons a
    | some v=>exact ih.cons₂ a
  exact List.pairwise_lt_range.sublist sub
theorem zgO {t:SetTable} {led:Bool} (g:ziO t led) (es:Array (Int×Value)) (wanted:Nat):ziO (relayAll t es wanted).2.1 led:=by
 unfold relayAll
 split
 ·rename_i t' order e
  have g2:ziO t' t.led:=zk5 e
  rw [g.led] at g2
  dsimp only
  split
  ·exact g2
  ·exact zcA g _
 ·exact zcA g _
noncomputable def zc9 (w:World):Bool:= !w.params.followText "set-order"
def zg8 (prog:Program) (w:World) (h:Heap) (a:Addr) (S:Int->Bool) (n:Nat):Prop:=
 ∃ ob es ep tb,(h.get? a=some ob/\ob.ExactSet/\ob.data= .set es ep tb)/\ElemsOf (intKind prog w) es.toList/\(∀ k,S k=true↔ ∃ e∈es.toList,(intKind prog w).is k e.2=true)/\
  (es.size<scanBound/\tb.fits es.size=true/\es.size=n)/\ziO tb (zc9 w)
theorem zg8.move {prog:Program} {w:World} {h h':Heap} {a:Addr} {S S':Int->Bool} {n n':Nat} (g:zg8 prog w h a S n) (k: ∀ ob,h.get? a=some ob->h'.get? a=some ob) (e: ∀ k,S k=S' k) (en:n=n'):zg8 prog w h' a S' n':=by
 obtain ⟨ob,es,ep,tb,⟨h1,h2,h3⟩,h4,h5,⟨h6,h7,h8⟩,h9⟩:=g
 exact ⟨ob,es,ep,tb,⟨k ob h1,h2,h3⟩,h4,fun z=>by rw [<- e z];exact h5 z,⟨h6,h7,h8.trans en⟩,h9⟩
section
variable {prog:Program} {w:World} {A:Around} {E:Value->Shared->Prop} {s:Shared}
theorem stored {a:Addr} {ob:Obj} {es es':Array (Int×Value)} {ep:Nat} {tb tb':SetTable} {S:Int->Bool} {R:Unit->Shared->Prop} (ho:s.heap.get? a=some ob) (hx:ob.ExactSet) (hd:ob.data= .set es ep tb)
  (hE:ElemsOf (intKind prog w) es'.toList) (hS: ∀ k,S k=true↔ ∃ e∈es'.toList,(intKind prog w).is k e.2=true) (hb:es'.size<scanBound) (hf:tb'.fits es'.size=true) (hg:ziO tb' (zc9 w))
  (q: ∀ h',Heap.SameBut a s.heap h'->h'.get? a=some {ob with data:= .set es' (ep+1) tb'}->zg8 prog w h' a S es'.size->R () {s with heap:=h'}):wpAny (model prog w) A (storeSet a es' tb') R E s:=by
 have put:=putSet_of es' tb' hd
 have at1:(s.heap.update a (Obj.putSet es' tb')).get? a=some {ob with data:= .set es' (ep+1) tb'}:=by
  have z:=qal (Obj.putSet es' tb') ho (by rw [put];rfl)
  rwa [put] at z
 exact wpAny_storeSet_of ho hd (q _ (Heap.SameBut.update ..) at1 ⟨_,es',ep+1,tb',⟨at1,hx,rfl⟩,hE,hS,⟨hb,hf,rfl⟩,hg⟩) (fits_of_scanBound hb)
theorem zu5 {a:Addr} {S:Int->Bool} {n:Nat} {k:Int} {t:Tok} {Q:Bool->Shared->Prop} (g:zg8 prog w s.heap a S n) (room:n+1<scanBound)
  (q: ∀ h' b,Heap.SameBut a s.heap h'->zg8 prog w h' a (fun z=>S z || decide (z=k)) (if S k then n else n+1)->Q b {s with heap:=h'}):
  wpAny (model prog w) A (setAddHashed a (.int k t) ((intKind prog w).hash k)) Q E s:=by
 have kis:(intKind prog w).is k (.int k t)=true:=intKind_is _ _ _ _
 obtain ⟨ob,es,ep,tb,⟨h1,h2,h3⟩,h4,h5,⟨h6,h7,h8⟩,h9⟩:=g
 have scn:(Value.int k t).scannable=true:=rfl
 unfold setAddHashed setAddHashedIn
 refine qaO (qaW (wpAny_setState_of h1 h3 h7 ?_))
 dsimp only
 rw [qa4 (byScan_of scn h6 h4)]
 refine qaW ?_
 unfold setAddByScan
 refine qaW (wpAny_rule (qaW (wpAny_setScan_of kis h1 h3 h7 h4 ?_)))
 cases fi:List.findIdx? (fun e=>(intKind prog w).is k e.2) es.toList with
 | some j=>
  obtain ⟨lj,pj,_⟩:=List.findIdx?_eq_some_iff_getElem.mp fi
  have inS:S k=true:=(h5 k).mpr ⟨_,List.getElem_mem lj,pj⟩
  refine qaX (qaX ?_)
  have z:=q s.heap false (Heap.SameBut.refl ..) ⟨ob,es,ep,tb,⟨h1,h2,h3⟩,h4,fun y=> ?_,⟨h6,h7,by rw [inS];exact h8⟩,h9⟩
  ·exact z
  ·rw [<- h5 y,Bool.or_eq_true,qaD]
   exact ⟨fun c=>c.elim id fun c=>by rw [c];exact inS,.inl⟩
 | none=>
  have noS:S k=false:=by
   rw [<- Bool.not_eq_true,h5 k]
   rintro ⟨e,he,pe⟩
   have:=List.findIdx?_eq_none_iff.mp fi e he
   rw [pe] at this
   cases this
  have L1:=layNew_perm tb es ((intKind prog w).hash k) (.int k t)
  have L2:=layNew_fits tb es ((intKind prog w).hash k) (.int k t)
  have L3:=zin h9 es ((intKind prog w).hash k) (.int k t)
  generalize hl:layNew tb es ((intKind prog w).hash k) (.int k t)=ln at L1 L2 L3 ⊢
  obtain ⟨es1,tb1,wd,gv⟩:=ln
  dsimp only at L1 L2 L3 ⊢
  rw [Array.toList_push] at L1
  have E1:ElemsOf (intKind prog w) es1.toList:=(h4.push kis scn).perm L1
  have M1: ∀ y,(S y || decide (y=k))=true↔ ∃ e∈es1.toList,(intKind prog w).is y e.2=true:=mem_push_iff kis h5 L1
  have Z1:es1.size=n+1:=by
   have z:=L1.length_eq
   rw [qav,qas,qas] at z
   rw [z,h8];rfl
  have B1:es1.size<scanBound:=by rw [Z1];exact room
  have quiet: ∀ (b:Bool) (s1:Shared) (R:Unit->Shared->Prop),R () s1->wpAny (model prog w) A (match b with | true=>rule "set.scan.the-table-gave-way" | false=>pure ()) R E s1:=fun b s1 R z=>by
   cases b
   ·exact qaX z
   ·exact wpAny_rule z
  have fin: ∀ (s1:Shared) (h':Heap),s1={s with heap:=h'}->Heap.SameBut a s.heap h'->zg8 prog w h' a (fun y=>S y || decide (y=k)) es1.size->Q true s1:=fun s1 h' e1 sb gg=>by
   subst e1
   have z:=q h' true sb
   rw [noS] at z
   exact z (by rw [Z1] at gg;exact gg)
  refine qaW (quiet _ _ _ ?_)
  have tail: ∀ (gw:Bool->Sem Unit),(∀ (b:Bool) (s1:Shared) (R:Unit->Shared->Prop),R () s1->wpAny (model prog w) A (gw b) R E s1)->wpAny (model prog w) A (do
      storeSet a es1 tb1
      if (!wd && tb1.tooFull)=true then do
        gw (relayAll tb1 es1 (SetTable.grown es1.size)).2.2
        storeSet a (relayAll tb1 es1 (SetTable.grown es1.size)).1 (relayAll tb1 es1 (SetTable.grown es1.size)).2.1
        pure (some true)
      else pure (some true)) (fun r s'=>wpAny (model prog w) A (match r with | some b=>pure b | none=>setAddHashedIn a (.int k t) ((intKind prog w).hash k) 99999) Q E s') E s:=by
   intro gw hgw
   refine qaW (stored h1 h2 h3 E1 M1 B1 L2 L3 fun h' sb at1 gg=> ?_)
   by_cases full:(!wd && tb1.tooFull)=true
   ·rw [qa4 full]
    have P2:=relayAll_perm tb1 es1 (SetTable.grown es1.size)
    have F2:=relayAll_fits tb1 es1 (SetTable.grown es1.size)
    have G2:=zgO L3 es1 (SetTable.grown es1.size)
    generalize relayAll tb1 es1 (SetTable.grown es1.size)=rl at P2 F2 G2 ⊢
    obtain ⟨es2,tb2,gv2⟩:=rl
    dsimp only at P2 F2 G2 ⊢
    have Z2:es2.size=es1.size:=by
     have z:=P2.length_eq
     rwa [qas,qas] at z
    refine qaW (hgw _ _ _ (qaW (stored (s:={s with heap:=h'}) (S:=fun y=>S y || decide (y=k)) at1 h2 rfl (E1.perm P2) (fun y=>(M1 y).trans ?_) (by rw [Z2];exact B1) F2 G2 fun h'' sb2 _ gg2=> ?_)))
    ·exact ⟨fun ⟨e,he,pe⟩=>⟨e,P2.mem_iff.mpr he,pe⟩,fun ⟨e,he,pe⟩=>⟨e,P2.mem_iff.mp he,pe⟩⟩
    ·exact qaX (qaX (fin _ h'' rfl (sb.trans sb2) (by rw [Z2] at gg2;exact gg2)))
   ·rw [qa5 full]
    exact qaX (qaX (fin _ h' rfl sb gg))
  split
  ·rw [hashByValue_scannable 8 scn]
   refine qaW (qaX ?_)
   exact tail _ fun b s1 R z=>by cases b<;>first | exact qaX z | exact wpAny_rule z
  ·refine qaW (qaX ?_)
   exact tail _ fun b s1 R z=>by cases b<;>first | exact qaX z | exact wpAny_rule z
end
section
variable {prog:Program} {w:World} {A:Around} {R:Result->Shared->Prop} {it:Addr} {fp wr:List Addr} {G:Array GenState->Array GenState->Prop} {n:Nat} {P:Nat->Value->Prop} {St:Nat->Shared->Prop}
theorem zuo (W:WalksS prog w A.in1 it fp wr G n P St) (a:Addr) (ha:a∉fp) (val:Nat->Int) (hval: ∀ i v,P i v-> ∃ t,v= .int (val i) t) (room:n+1<scanBound):
  ∀ (left i:Nat) (s:Shared),n - i=left->i<=n->St i s->zg8 prog w s.heap a (fun z=>(firstMet val i).any (· == z)) (firstMet val i).length->
   (∀ s',Moved (a::wr) G s s'->zg8 prog w s'.heap a (fun z=>(firstMet val n).any (· == z)) (firstMet val n).length->R (.ok (.ret .none)) s')->
   codeAny (model prog w) A (.builtin "set.update.loop" ⟨[.ref a,.ref it],[]⟩) R s:=by
 have awr:a∉wr:=fun z=>ha (W.sub _ z)
 have more: ∀ b∈wr,b∈a::wr:=fun b z=> .tail _ z
 intro left
 induction left with
 | zero=>
  intro i s hleft hin st g q
  obtain rfl:i=n:=by omega
  refine codeAny_builtin F.entry_set_update_loop ?_
  rw [qap F.plain_set_update_loop _]
  show wpAny _ _ (pyNext (.ref it)>>=_) _ _ _
  refine qaW (W.done s _ _ st fun s' mv=> ?_)
  exact qaX (q s' (mv.mono more) (g.move (fun ob e=>mv.heap a ob awr e) (fun _=>rfl) rfl))
 | succ left ih=>
  intro i s hleft hin st g q
  have hi:i<n:=by omega
  refine codeAny_builtin F.entry_set_update_loop ?_
  rw [qap F.plain_set_update_loop _]
  show wpAny _ _ (pyNext (.ref it)>>=_) _ _ _
  refine qaW (W.item i s _ _ hi st fun v s1 pv st1 mv=> ?_)
  obtain ⟨t,rfl⟩:=hval i v pv
  have g1:zg8 prog w s1.heap a (fun z=>(firstMet val i).any (· == z)) (firstMet val i).length:=g.move (fun ob e=>mv.heap a ob awr e) (fun _=>rfl) rfl
  show wpAny _ _ (holding [Value.int (val i) t] (setAdd a (.int (val i) t))>>=_) _ _ _
  refine qaW (qaO ?_)
  unfold setAdd
  refine qaO (qaW ((intKind prog w).pyHash (k:=val i) (intKind_is _ _ _ _) ?_))
  have few:=firstMet_length_le val i
  refine zu5 (s:={s1 with toks:=s1.toks+1}) g1 (by omega) fun h2 b sb g2=> ?_
  have g3:zg8 prog w h2 a (fun z=>(firstMet val (i+1)).any (· == z)) (firstMet val (i+1)).length:=
   g2.move (fun _ e=>e) (fun z=>by rw [firstMet_succ,step_any]) (by rw [firstMet_succ,step_length])
  have off: ∀ b,b≠a->h2.get? b=s1.heap.get? b:=fun b hb=>sb.2 b hb
  refine qaX ⟨plainId_quiet F.plain_set_update_loop _,ih (i+1) _ (by omega) hi (W.frame _ s1 _ _ st1 (Nat.le_succ _) fun b hb ob e=> ?_) g3 fun s3 mv3 g4=> ?_⟩
  ·rw [off b fun z=>ha (z▸hb)]
   exact e
  ·refine q s3 (.trans W.gtrans ((mv.mono more).then_heap (Nat.le_succ _) fun b ob hb e=> ?_) mv3) g4
   rw [off b fun z=>hb (z▸ .head _)]
   exact e
end
section
variable {prog:Program} {w:World} {A:Around} {E:Value->Shared->Prop} {s:Shared}
theorem zoi (h:Heap):zg8 prog w (h.push {cls:= .type "set",dict:=none,data:= .set #[] 0 (.fresh 0 0 (zc9 w))}) h.objs.size (fun _=>false) 0:=
 ⟨_, #[],0,_,⟨qar _ rfl,⟨rfl,rfl,rfl⟩,rfl⟩,fun e he=>by simp at he,fun k=>by simp,⟨by decide,rfl,rfl⟩,⟨List.Pairwise.nil,rfl,rfl⟩⟩
theorem zuX (x:Value) {Q:Value->Shared->Prop} (q:Q (.ref s.heap.objs.size) {s with heap:=s.heap.push {cls:= .type "set",dict:=none,data:= .set #[] 0 (.fresh 0 0 (zc9 w))}}):
  codeAny (model prog w) A (.call (.builtin "set.__new__") ⟨[.type "set",x],[]⟩) (wants Q E) s:=by
 refine codeAny_of_tree ?_
 show wpAny _ _ (do checkBuiltinCall "set.__new__" ⟨[.type "set",x],[]⟩;again (.builtin "set.__new__" ⟨[.type "set",x],[]⟩)) _ _ _
 refine qaW (wpAny_of_eq (F.newCall_set_1 x) (qaX ⟨plainId_quiet F.plain_set_new _,codeAny_builtin F.entry_set_new ?_⟩))
 rw [qap F.plain_set_new _]
 unfold Builtin.«set.__new__» Builtin.Frozenset.newClass
 have self:=sub_set_self
 obtain ⟨hp,gs,dr,tk,os⟩:=s
 dsimp only
 wp_walk
 refine wpAny_askSetting (qaX ?_)
 dsimp only
 simp only [newObj]
 exact qaW (wpAny_alloc (qaX (qaX q)))
theorem zus {l:Addr} {T:String} {items:Array Value} {ns:List Int} {Q:Value->Shared->Prop} (hh:A.handled=none) (hT:(T="list"/\s.heap.IsList l items)\/(T="tuple"/\s.heap.IsTuple l items)) (hi:IntsAre items.toList ns) (room:items.size+1<scanBound)
  (q: ∀ (h':Heap) (tk:Nat),zg8 prog w h' s.heap.objs.size (fun z=>(firstMet (fun i=>ns.getD i 0) items.size).any (· == z)) (firstMet (fun i=>ns.getD i 0) items.size).length->(∀ b ob,s.heap.get? b=some ob->h'.get? b=some ob)->
    Q (.ref s.heap.objs.size) {s with heap:=h',toks:=tk}):wpAny (model prog w) A (call (.type "set") [.ref l]) Q E s:=by
 obtain ⟨c,tl,hmro⟩:=F.called_set.mro
 have hmade:=F.called_set.made
 have hsub:=F.called_set.sub
 refine wpAny_call (codeAny_of_tree ?_)
 show wpAny _ _ (callAny (.type "set") _) _ _ _
 refine qaX ⟨Code.quiet_builtin _ (by decide +kernel),codeAny_builtin F.entry_type_call ?_⟩
 rw [Around.under_plain (weight_type_call_type "set" [.ref l] []) rfl]
 have hnt:=F.called_set.notType
 have hcc:=F.called_set.canCreate
 have htc:=F.typeCall_set_1 (.ref l)
 repeat' (first | assumption | wp_step)
 refine codeAny_mono (zuX (.ref l) (E:=E) (Q:=fun v s1=>v= .ref s.heap.objs.size/\s1={s with heap:=s.heap.push {cls:= .type "set",dict:=none,data:= .set #[] 0 (.fresh 0 0 (zc9 w))}}) ⟨rfl,rfl⟩) fun r s1 hr=> ?_
 cases r with
 | error e=>exact hr
 | ok fl=>
  cases fl with
  | ret v=>
   obtain ⟨rfl,rfl⟩:=hr
   have laid:(s.heap.push {cls:= .type "set",dict:=none,data:= .set #[] 0 (.fresh 0 0 (zc9 w))}).get? s.heap.objs.size=some {cls:= .type "set",dict:=none,data:= .set #[] 0 (.fresh 0 0 (zc9 w))}:=qar _ rfl
   have isSet:Shared.TypeIs {s with heap:=s.heap.push {cls:= .type "set",dict:=none,data:= .set #[] 0 (.fresh 0 0 (zc9 w))}} (.ref s.heap.objs.size) "set":=⟨_,laid,rfl⟩
   have hli:=F.called_set.init.lookup
   have hbi:=F.called_set.init.bind (.ref s.heap.objs.size)
   repeat' (first | assumption | wp_step)
   refine codeAny_mono (codeAny_call_builtin (R:=wants (fun z s2=>z= .none/\ ∃ h' tk,s2={s with heap:=h',toks:=tk}/\
       zg8 prog w h' s.heap.objs.size (fun z=>(firstMet (fun i=>ns.getD i 0) items.size).any (· == z)) (firstMet (fun i=>ns.getD i 0) items.size).length/\(∀ b ob,s.heap.get? b=some ob->h'.get? b=some ob)) E) F.called_set.init.plain F.entry_set_init (check_set_init_1 isSet ?_)) fun r2 s2 hr2=> ?_
   ·have keepL: ∀ ob,s.heap.get? l=some ob->(s.heap.push {cls:= .type "set",dict:=none,data:= .set #[] 0 (.fresh 0 0 (zc9 w))}).get? l=some ob:=fun ob e=>qag _ e
    have hval: ∀ (i:Nat) (v:Value),items[i]? = some v-> ∃ t,v= .int ((fun i=>ns.getD i 0) i) t:=fun i v hv=>IntsAre.int_at hi i v (by rw [Array.getElem?_toList];exact hv)
    have hh3:A.in1.in1.in1.handled=none:=by simp [hh]
    have done1: ∀ (l0:Addr) (h0:Heap) (s':Shared),l0=s.heap.objs.size->Moved [l0,(s.heap.push {cls:= .type "set",dict:=none,data:= .set #[] 0 (.fresh 0 0 (zc9 w))}).objs.size] (fun a b=>b=a) {s with heap:=h0} s'->(∀ b ob,s.heap.get? b=some ob->h0.get? b=some ob)->
      (∀ b ob,s.heap.get? b=some ob->s'.heap.get? b=some ob)/\s'={s with heap:=s'.heap,toks:=s'.toks}:=fun l0 h0 s' e0 mv k0=>by
     refine ⟨fun b ob e=>mv.heap b ob (fun z=> ?_) (k0 b ob e),?_⟩
     ·have lt:=qaQ e
      rw [qaL,e0] at z
      simp only [qaP,qaF,or_false] at z
      rcases z with z | z
      ·exact qaN _ (z▸lt)
      ·exact qaN _ (Nat.lt_of_succ_lt (z▸lt))
     ·obtain ⟨h',g',d',tk',os'⟩:=s'
      have eg:g'=s.gens:=mv.gens
      have ed:d'=s.drawn:=mv.drawn
      have eo:os'=s.os:=mv.os
      subst eg ed eo
      rfl
    unfold Builtin.«set.__init__» noKeywords Builtin.Frozenset.updateFrom
    generalize hPI:pyIter=PI
    rcases hT with ⟨rfl,hl⟩ | ⟨rfl,hl⟩
    ·obtain ⟨⟨ocl,odi,oda,osl⟩,hol,hcl,nl,hdl⟩:=hl
     simp only at hcl hdl
     subst hcl hdl
     have hol':=keepL _ hol
     have f1:=F.sub_list_set
     have f2:=F.sub_list_frozenset
     have f3:(Value.type "list"==Value.type "dict")=false:=by decide
     wp_walk
     subst hPI
     have hl1:(s.heap.push {cls:= .type "set",dict:=none,data:= .set #[] 0 (.fresh 0 0 (zc9 w))}).IsList l items:=⟨_,hol',rfl,nl,rfl⟩
     refine wpAny_pyIter_list hl1 ?_
     refine qaW (wpAny_runValue ?_)
     have ltl:l<s.heap.objs.size:=qaQ hol
     have szp:(s.heap.push {cls:= .type "set",dict:=none,data:= .set #[] 0 (.fresh 0 0 (zc9 w))}).objs.size=s.heap.objs.size+1:=qaL ..
     have ne1:l≠(s.heap.push {cls:= .type "set",dict:=none,data:= .set #[] 0 (.fresh 0 0 (zc9 w))}).objs.size:=by rw [szp];exact qaR (Nat.lt_succ_of_lt ltl)
     have ne2:s.heap.objs.size∉[(s.heap.push {cls:= .type "set",dict:=none,data:= .set #[] 0 (.fresh 0 0 (zc9 w))}).objs.size,l]:=by
      rw [szp]
      simp only [qaP,qaF,or_false]
      rintro (z | z)
      ·exact Nat.succ_ne_self _ z.symm
      ·exact qaN _ (z▸ltl)
     refine zuo ((Walks.list hh3 _ l ne1 items).toS) s.heap.objs.size ne2 (fun i=>ns.getD i 0) hval room _ 0 _ rfl (Nat.zero_le _) ⟨⟨_,qar _ rfl,rfl,rfl⟩,hl1.push _⟩ ?g0 fun s' mv gg=> ?_
     case g0=>exact (zoi s.heap).move (fun ob e=>qag _ e) (fun _=>rfl) rfl
     obtain ⟨k1,k2⟩:=done1 _ _ s' rfl mv fun b ob e=>qag _ (qag _ e)
     exact qaX (qaX ⟨rfl,s'.heap,s'.toks,k2,gg,k1⟩)
    ·obtain ⟨⟨ocl,odi,oda,osl⟩,hol,hcl,nl,hdl⟩:=hl
     simp only at hcl hdl
     subst hcl hdl
     have hol':=keepL _ hol
     have f1:=F.sub_tuple_set
     have f2:=F.sub_tuple_frozenset
     have f3:(Value.type "tuple"==Value.type "dict")=false:=by decide
     wp_walk
     subst hPI
     have hl1:(s.heap.push {cls:= .type "set",dict:=none,data:= .set #[] 0 (.fresh 0 0 (zc9 w))}).IsTuple l items:=⟨_,hol',rfl,nl,rfl⟩
     refine wpAny_pyIter_tuple hl1 ?_
     refine qaW (wpAny_runValue ?_)
     have ltl:l<s.heap.objs.size:=qaQ hol
     have szp:(s.heap.push {cls:= .type "set",dict:=none,data:= .set #[] 0 (.fresh 0 0 (zc9 w))}).objs.size=s.heap.objs.size+1:=qaL ..
     have ne1:l≠(s.heap.push {cls:= .type "set",dict:=none,data:= .set #[] 0 (.fresh 0 0 (zc9 w))}).objs.size:=by rw [szp];exact qaR (Nat.lt_succ_of_lt ltl)
     have ne2:s.heap.objs.size∉[(s.heap.push {cls:= .type "set",dict:=none,data:= .set #[] 0 (.fresh 0 0 (zc9 w))}).objs.size,l]:=by
      rw [szp]
      simp only [qaP,qaF,or_false]
      rintro (z | z)
      ·exact Nat.succ_ne_self _ z.symm
      ·exact qaN _ (z▸ltl)
     refine zuo ((Walks.tuple hh3 _ l ne1 items).toS) s.heap.objs.size ne2 (fun i=>ns.getD i 0) hval room _ 0 _ rfl (Nat.zero_le _) ⟨⟨_,qar _ rfl,rfl,rfl⟩,⟨_,qag _ hol',rfl,nl,rfl⟩⟩ ?g0 fun s' mv gg=> ?_
     case g0=>exact (zoi s.heap).move (fun ob e=>qag _ e) (fun _=>rfl) rfl
     obtain ⟨k1,k2⟩:=done1 _ _ s' rfl mv fun b ob e=>qag _ (qag _ e)
     exact qaX (qaX ⟨rfl,s'.heap,s'.toks,k2,gg,k1⟩)
   ·cases r2 with
    | error e=>exact hr2
    | ok fl2=>
     cases fl2 with
     | ret z=>
      obtain ⟨rfl,h',tk,rfl,gg,k1⟩:=hr2
      repeat' (first | assumption | wp_step)
      exact q _ _ gg k1
     | _=>exact hr2.elim
  | _=>exact hr.elim
end
theorem zaU:Slot "set_iterator" "__next__" "set_iterator.__next__":= .of (owner:="set_iterator") (n:="__next__") (by rw [typeLookup_type,builtinLookup_eq_fast];kernel_rfl) (by decide +kernel) (by decide +kernel) (by decide +kernel) (by first | exact .inl (by decide +kernel) | exact .inr (by decide +kernel)) (by rw [isSubtype_type];kernel_rfl)
theorem zeE:Slot "set_iterator" "__iter__" "set_iterator.__iter__":= .of (owner:="set_iterator") (n:="__iter__") (by rw [typeLookup_type,builtinLookup_eq_fast];kernel_rfl) (by decide +kernel) (by decide +kernel) (by decide +kernel) (by first | exact .inl (by decide +kernel) | exact .inr (by decide +kernel)) (by rw [isSubtype_type];kernel_rfl)
theorem zcN:entryFor table "set_iterator.__next__"=some Builtin.«set_iterator.__next__» := entryFor_of_tree (by kernel_rfl)
theorem zf3:entryFor table "set_iterator.__iter__"=some Builtin.«dict_keyiterator.__iter__» := entryFor_alias (id':="dict_keyiterator.__iter__") (by kernel_rfl) rfl (by decide +kernel) (by kernel_rfl)
theorem zdb (a:Value):argsOk "set_iterator.__next__" ⟨[a],[]⟩:=by unfold argsOk;kernel_rfl
theorem zgX (a:Value):argsOk "set_iterator.__iter__" ⟨[a],[]⟩:=by unfold argsOk;kernel_rfl
theorem zf1:entryFor table "set.__iter__"=some Builtin.«frozenset.__iter__» := entryFor_alias (id':="frozenset.__iter__") (by kernel_rfl) rfl (by decide +kernel) (by kernel_rfl)
def SIt (h:Heap) (it a:Addr) (first:Value) (i n ep:Nat):Prop:=h.get? it=some {cls:= .type "set_iterator",dict:=none,data:= .fields #[first,.int i 0,.ref a,.int n 0,.int ep 0],slots:= #[]}
structure zjz (h:Heap) (a:Addr) (es:Array (Int×Value)) (ep:Nat) (tb:SetTable):Prop where
 at_: ∃ ob,h.get? a=some ob/\ob.ExactSet/\ob.data= .set es ep tb
 fits:tb.fits es.size=true
section
variable {prog:Program} {w:World} {A:Around} {E:Value->Shared->Prop} {s:Shared}
theorem zl7 {it a:Addr} {first:Value} {i n ep:Nat} {es:Array (Int×Value)} {tb:SetTable} {Q:Option Value->Shared->Prop} (hI:SIt s.heap it a first i n ep) (hS:zjz s.heap a es ep tb) (hn:es.size=n) (slot:Nat) (hf:first= .int slot 0)
  (q:wpAny (model prog w) A.in1 (do
    match<-setNext a slot i ep with
    | some (x,next)=>
      setField (.ref it) 0 (rawInt next)
      setField (.ref it) 1 (rawInt ((i:Int)+1))
      ret x
    | none=>setField (.ref it) 2 .none;raiseNew (<- newExc (.type "StopIteration") [])) (fun f s'=> ∃ v,f= .done (.ret v)/\Q (some v) s') (fun e s'=>wpAny (model prog w) A (do if<-isInstance e (.type "StopIteration") then pure none else throw e) Q E s') s):
  wpAny (model prog w) A (pyNext (.ref it)) Q E s:=by
 obtain ⟨ob,ho,hx,hd⟩:=hS.at_
 subst hf
 have tI:s.TypeIs (.ref it) "set_iterator":=⟨_,hI,rfl⟩
 unfold pyNext
 refine qaW (wpAny_attempt (wpAny_callSpecial?_slot (name:=Str.ofString "__next__") tI zaU (wpAny_call_entry zaU tI zcN ?_ (zdb _))))
 unfold Builtin.«set_iterator.__next__»
 refine qaW (m:=slotArgs "__next__" 0 _) (qaX ?_)
 refine qaW (m:=fieldsOf (.ref it)) ?_
 unfold fieldsOf
 refine qaW (wpAny_load hI (qaX ?_))
 refine qaW (wpAny_setEntries_of ho hd hS.fits ?_)
 have zf6: ¬(((es.size:Nat):Int) != (n:Int))=true:=by rw [hn];simp
 rw [qa5 zf6]
 exact qaZ q (fun f s' ⟨v,e,z⟩=>⟨v,e,qaX z⟩) fun e s' z=>z
theorem zlP {it:Addr} {r:Shared->Prop} {Q:Option Value->Shared->Prop} (hh:A.handled=none) (q: ∀ h',(∀ b ob,s.heap.get? b=some ob->h'.get? b=some ob)->Q none {s with heap:=h'}):
  wpAny (model prog w) A.in1 (do raiseNew (<- newExc (.type "StopIteration") []):Sem PySem.Fin) (fun f s'=> ∃ v,f= .done (.ret v)/\Q (some v) s') (fun e s'=>wpAny (model prog w) A (do if<-isInstance e (.type "StopIteration") then pure none else throw e) Q E s') s:=by
 refine qaW ?_
 simp only [newExc,newTuple]
 refine qaW (qaC ?_ (by size_fits))
 refine qaW (m:=firstArgMember _ _) (wpAny_of_eq (a:=Value.none) (by first | rfl | (simp only [firstArgMember];rfl)) ?_)
 refine qaC ?_ (by size_fits)
 simp only [raiseNew]
 refine qaW (wpAny_handled ?_)
 rw [show A.in1.handled=none from hh]
 refine qaW (qaX (wpAny_throw ?_))
 refine qaW (wpAny_isInstance (T:="StopIteration") (b:=true) ⟨_,qar _ rfl,rfl⟩ isSubtype_stop ?_)
 exact qaX (q _ fun b ob e=>qag _ (qag _ e))
theorem SIt.set {h h':Heap} {it a:Addr} {first:Value} {i n ep:Nat} (x:SIt h it a first i n ep):it<h.objs.size:=qaQ x
theorem zgt {es:Array (Int×Value)} {tb:SetTable} (hf:tb.fits es.size=true):tb.place.size=es.size:=by
 unfold SetTable.fits at hf
 simp only [qaG,beq_iff_eq] at hf
 exact hf.1
theorem zem {a:Addr} {ep i slot:Nat} {es:Array (Int×Value)} {tb:SetTable} {R:Option (Value×Nat)->Shared->Prop} (hS:zjz s.heap a es ep tb) (led:tb.led=true) (bt:w.params.followText "set-order"=false) (pl:(!tb.plain && decide (es.size>1))=false)
  (q:R (match es[SetTable.below tb.place slot]?, tb.place[SetTable.below tb.place slot]? with | some (_,x),some j=>some (x,j+1) | _,_=>none) s):wpAny (model prog w) A (setNext a slot i ep) R E s:=by
 obtain ⟨ob,ho,hx,hd⟩:=hS.at_
 unfold setNext
 refine qaW (wpAny_setState_of ho hd hS.fits ?_)
 dsimp only
 unfold setsByText
 refine qaW (qaW (wpAny_askSetting (qaX ?_)))
 dsimp only
 rw [show (model prog w).w.params.followText "set-order"=false from bt]
 simp only [qax,if_false]
 show wpAny _ _ (if (!tb.plain && decide (es.size>1))=true then _ else _) _ _ _
 rw [qa5 (by rw [pl];exact Bool.false_ne_true)]
 refine qaW ?_
 show wpAny _ _ (if (!tb.led && !es.isEmpty)=true then _ else _) _ _ _
 rw [qa5 (by rw [led];exact Bool.false_ne_true)]
 exact qaX (qaX q)
theorem zeY {a:Addr} {ep i slot:Nat} {es:Array (Int×Value)} {tb:SetTable} {R:Option (Value×Nat)->Shared->Prop} (hS:zjz s.heap a es ep tb) (bt:w.params.followText "set-order"=true)
  (q:R (((pickOrder (w.params.setOrder a ep) es)[i]?).map fun e=>(e.2,slot)) s):wpAny (model prog w) A (setNext a slot i ep) R E s:=by
 obtain ⟨ob,ho,hx,hd⟩:=hS.at_
 unfold setNext
 refine qaW (wpAny_setState_of ho hd hS.fits ?_)
 dsimp only
 unfold setsByText
 refine qaW (qaW (wpAny_askSetting (qaX ?_)))
 dsimp only
 rw [show (model prog w).w.params.followText "set-order"=true from bt]
 simp only [if_true]
 rw [qa5 (by simp)]
 refine qaW ?_
 unfold setWalk
 refine qaW (wpAny_setState_of ho hd hS.fits ?_)
 dsimp only
 unfold setsByText
 refine qaW (qaW (wpAny_askSetting (qaX ?_)))
 dsimp only
 rw [show (model prog w).w.params.followText "set-order"=true from bt]
 simp only [if_true]
 refine qaW (wpAny_askSetting (qaX (qaX q)))
theorem zkW {it a:Addr} {n ep i slot nx:Nat} {x:Value} {es:Array (Int×Value)} {tb:SetTable} {Q:Option Value->Shared->Prop} (hI:SIt s.heap it a (.int slot 0) i n ep) (hS:zjz s.heap a es ep tb) (hn:es.size=n)
  (st: ∀ (R:Option (Value×Nat)->Shared->Prop) (E':Value->Shared->Prop),R (some (x,nx)) s->wpAny (model prog w) A.in1 (setNext a slot i ep) R E' s)
  (q: ∀ h',SIt h' it a (.int nx 0) (i+1) n ep->Heap.SameBut it s.heap h'->Q (some x) {s with heap:=h'}):wpAny (model prog w) A (pyNext (.ref it)) Q E s:=by
 refine zl7 hI hS hn slot rfl (qaW (st _ _ ?_))
 dsimp only
 refine qaW (wpAny_setField_rec hI (by simp) fun h1 a1 sb1=> ?_)
 refine qaW (wpAny_setField_rec (s:={s with heap:=h1}) a1 (by simp) fun h2 a2 sb2=> ?_)
 refine qaX ⟨x,rfl,q h2 ?_ (sb1.trans sb2)⟩
 unfold SIt
 rw [a2]
 simp [rawInt]
theorem zov {it a:Addr} {n ep i slot:Nat} {es:Array (Int×Value)} {tb:SetTable} {Q:Option Value->Shared->Prop} (hh:A.handled=none) (hI:SIt s.heap it a (.int slot 0) i n ep) (hS:zjz s.heap a es ep tb) (hn:es.size=n)
  (st: ∀ (R:Option (Value×Nat)->Shared->Prop) (E':Value->Shared->Prop),R none s->wpAny (model prog w) A.in1 (setNext a slot i ep) R E' s)
  (q: ∀ h',(∀ b ob,b≠it->s.heap.get? b=some ob->h'.get? b=some ob)->Q none {s with heap:=h'}):wpAny (model prog w) A (pyNext (.ref it)) Q E s:=by
 refine zl7 hI hS hn slot rfl (qaW (st _ _ ?_))
 dsimp only
 refine qaW (wpAny_setField_rec hI (by simp) fun h1 a1 sb1=> ?_)
 exact zlP (r:=fun _=>True) (it:=it) (s:={s with heap:=h1}) hh fun h' k=>q h' fun b ob hb e=>k b ob ((sb1.2 b hb).trans e)
end
theorem zdK {α:Type}: ∀ {l:List α} {i:Nat} {x:α},l[i]? = some x->List.Perm l (x::l.eraseIdx i)
 | [],_,_,e=>by simp at e
 | a::r,0,x,e=>by simp at e;subst e;exact .rfl
 | a::r,i+1,x,e=>by
  have e:r[i]? = some x:=by simpa using e
  exact ((zdK e).cons a).trans (.swap x a _)
theorem zeW {α:Type} {l:List α} {i:Nat} {x:α} (e:l[i]? = some x):(l.eraseIdx i).length+1=l.length:=by
 have:=(zdK e).length_eq
 rw [qaE] at this
 exact this.symm
theorem zhb {α:Type} (nx:Nat->Nat): ∀ (fuel k:Nat) (left:List α) (out:Array α),left.length=fuel->List.Perm (pickOrder.go nx fuel k left out).toList (out.toList++left)
 | 0,k,left,out,h=>by
  have:left=[]:=List.length_eq_zero_iff.mp h
  subst this
  simp [pickOrder.go]
 | fuel+1,k,left,out,h=>by
  unfold pickOrder.go
  have hl:nx k % left.length<left.length:=Nat.mod_lt _ (by omega)
  have e:left[nx k % left.length]? = some left[nx k % left.length]:=by simp [hl]
  rw [e]
  dsimp only
  have hz:=zeW e
  refine (zhb nx fuel (k+1) _ _ (by omega)).trans ?_
  rw [Array.toList_push,List.append_assoc]
  exact List.Perm.append_left _ (zdK e).symm
theorem zcW {α:Type} (nx:Nat->Nat) (xs:Array α):List.Perm (pickOrder nx xs).toList xs.toList:=by
 have:=zhb nx xs.size 0 xs.toList #[] (by simp)
 simpa [pickOrder] using this
section
variable {prog:Program} {w:World} {A:Around} {E:Value->Shared->Prop} {s:Shared}
theorem zjT {src:Source} {n:Nat} {Q:Nat->Shared->Prop} (hn:n≠0) (q: ∀ k d,k<n->Q k {s with drawn:=d}):wpAny (model prog w) A (choose src n) Q E s:=fun Γ p hΓ=>⟨hn,q _ _ (Nat.mod_lt _ (Nat.pos_of_ne_zero hn))⟩
theorem ze1 {α:Type}: ∀ (fuel:Nat) (xs:List α) (s:Shared) (Q:List α->Shared->Prop),xs.length<=fuel->(∀ ys d,List.Perm ys xs->Q ys {s with drawn:=d})->wpAny (model prog w) A (drawOrder fuel xs) Q E s
 | 0,xs,s,Q,h,q=>by
  have:xs=[]:=List.length_eq_zero_iff.mp (by omega)
  subst this
  unfold drawOrder
  exact qaX (q [] s.drawn .rfl)
 | fuel+1,[],s,Q,h,q=>by
  unfold drawOrder
  exact qaX (q [] s.drawn .rfl)
 | fuel+1,x::r,s,Q,h,q=>by
  unfold drawOrder
  refine qaW (zjT (by simp) fun k d hk=> ?_)
  have e:(x::r)[k]? = some (x::r)[k]:=by simp [hk]
  rw [e]
  dsimp only
  have hz:=zeW e
  refine qaW (ze1 fuel ((x::r).eraseIdx k) {s with drawn:=d} _ (by omega) fun ys d' p=>qaX ?_)
  exact q _ d' ((p.cons _).trans (zdK e).symm)
theorem zjP {it a tp:Addr} {n ep i p:Nat} {x:Value} {es:Array (Int×Value)} {tb:SetTable} {ps:Array Value} {Q:Option Value->Shared->Prop} (hI:SIt s.heap it a (.ref tp) i n ep) (hS:zjz s.heap a es ep tb) (hn:es.size=n)
  (hT:s.heap.get? tp=some {cls:= .type "tuple",data:= .seq ps}) (hp:ps[i]? = some (.int (p:Nat) 0)) (he:(es[p]?).map (·.2)=some x)
  (q: ∀ h',SIt h' it a (.ref tp) (i+1) n ep->Heap.SameBut it s.heap h'->Q (some x) {s with heap:=h'}):wpAny (model prog w) A (pyNext (.ref it)) Q E s:=by
 obtain ⟨ob,ho,hx,hd⟩:=hS.at_
 have tI:s.TypeIs (.ref it) "set_iterator":=⟨_,hI,rfl⟩
 unfold pyNext
 refine qaW (wpAny_attempt (wpAny_callSpecial?_slot (name:=Str.ofString "__next__") tI zaU (wpAny_call_entry zaU tI zcN ?_ (zdb _))))
 unfold Builtin.«set_iterator.__next__»
 refine qaW (m:=slotArgs "__next__" 0 _) (qaX ?_)
 refine qaW (m:=fieldsOf (.ref it)) ?_
 unfold fieldsOf
 refine qaW (wpAny_load hI (qaX ?_))
 refine qaW (wpAny_setEntries_of ho hd hS.fits ?_)
 have zf6: ¬(((es.size:Nat):Int) != (n:Int))=true:=by rw [hn];simp
 rw [qa5 zf6]
 refine qaW (m:=seqItems? (.ref tp)) ?_
 unfold seqItems?
 refine qaW (wpAny_load hT (qaX ?_))
 dsimp only
 rw [show ((i:Nat):Int).toNat=i from qaB i,hp]
 dsimp only
 refine qaW (m:=setNextDrawn a _ _) ?_
 unfold setNextDrawn
 refine qaW (wpAny_setState_of ho hd hS.fits ?_)
 dsimp only
 rw [show ((ep:Nat):Int).toNat=ep from qaB ep,show ((p:Nat):Int).toNat=p from qaB p,qa5 (by simp)]
 cases ee:es[p]? with
 | none=>rw [ee] at he;cases he
 | some e=>
  rw [ee] at he
  cases he
  dsimp only
  refine qaX ?_
  refine qaW (wpAny_setField_rec hI (by simp) fun h2 a2 sb2=> ?_)
  refine qaX ⟨_,rfl,qaX (q h2 ?_ sb2)⟩
  unfold SIt
  rw [a2]
  simp [rawInt]
theorem zlp {it a tp:Addr} {n ep i:Nat} {es:Array (Int×Value)} {tb:SetTable} {ps:Array Value} {Q:Option Value->Shared->Prop} (hh:A.handled=none) (hI:SIt s.heap it a (.ref tp) i n ep) (hS:zjz s.heap a es ep tb) (hn:es.size=n)
  (hT:s.heap.get? tp=some {cls:= .type "tuple",data:= .seq ps}) (hp:ps[i]? = none)
  (q: ∀ h',(∀ b ob,b≠it->s.heap.get? b=some ob->h'.get? b=some ob)->Q none {s with heap:=h'}):wpAny (model prog w) A (pyNext (.ref it)) Q E s:=by
 obtain ⟨ob,ho,hx,hd⟩:=hS.at_
 have tI:s.TypeIs (.ref it) "set_iterator":=⟨_,hI,rfl⟩
 unfold pyNext
 refine qaW (wpAny_attempt (wpAny_callSpecial?_slot (name:=Str.ofString "__next__") tI zaU (wpAny_call_entry zaU tI zcN ?_ (zdb _))))
 unfold Builtin.«set_iterator.__next__»
 refine qaW (m:=slotArgs "__next__" 0 _) (qaX ?_)
 refine qaW (m:=fieldsOf (.ref it)) ?_
 unfold fieldsOf
 refine qaW (wpAny_load hI (qaX ?_))
 refine qaW (wpAny_setEntries_of ho hd hS.fits ?_)
 have zf6: ¬(((es.size:Nat):Int) != (n:Int))=true:=by rw [hn];simp
 rw [qa5 zf6]
 refine qaW (m:=seqItems? (.ref tp)) ?_
 unfold seqItems?
 refine qaW (wpAny_load hT (qaX ?_))
 dsimp only
 rw [show ((i:Nat):Int).toNat=i from qaB i,hp]
 dsimp only
 refine qaW (wpAny_setField_rec hI (by simp) fun h1 a1 sb1=> ?_)
 refine qaW (wpAny_setField_rec (s:={s with heap:=h1}) a1 (by simp) fun h2 a2 sb2=> ?_)
 refine qaZ (zlP (Q:=Q) (E:=E) (r:=fun _=>True) (it:=it) (s:={s with heap:=h2}) hh fun h' k=>q h' fun b ob hb e=>k b ob ((sb2.2 b hb).trans ((sb1.2 b hb).trans e))) (fun f s' ⟨v,e,z⟩=>⟨v,e,qaX z⟩) fun e s' z=>z
theorem zfy {it a:Addr} {first:Value} {i n ep:Nat} {Q:Value->Shared->Prop} (hI:SIt s.heap it a first i n ep) (q:Q (.ref it) s):wpAny (model prog w) A (pyIter (.ref it)) Q E s:=by
 have tI:s.TypeIs (.ref it) "set_iterator":=⟨_,hI,rfl⟩
 refine wpAny_pyIter_slot tI zeE (wpAny_call_entry zeE tI zf3 ?_ (zgX _))
 show wpAny _ _ (ret (.ref it)) _ _ _
 exact qaX ⟨_,rfl,"set_iterator",_,tI,zaU.lookup,q⟩
theorem zjz.keep {h h':Heap} {a:Addr} {es:Array (Int×Value)} {ep:Nat} {tb:SetTable} (x:zjz h a es ep tb) (k: ∀ ob,h.get? a=some ob->h'.get? a=some ob):zjz h' a es ep tb:=
 ⟨let ⟨ob,h1,h2⟩:=x.at_;⟨ob,k ob h1,h2⟩,x.fits⟩
noncomputable def zhN (tb:SetTable):Nat->Nat
 | 0=>0
 | i+1=>tb.place.getD i 0+1
theorem zjF (hh:A.handled=none) {it a:Addr} {ep:Nat} {es:Array (Int×Value)} {tb:SetTable} (hne:a≠it) (up:Up tb.place) (led:tb.led=true) (bt:w.params.followText "set-order"=false) (pl:(!tb.plain && decide (es.size>1))=false) (hf:tb.fits es.size=true):
  Walks prog w A it [it,a] [it] es.size (fun i v=> ∃ e,es.toList[i]? = some e/\v=e.2) (fun i h=>SIt h it a (.int (zhN tb i:Nat) 0) i es.size ep/\zjz h a es ep tb) where
 sub:=fun b hb=>by simp at hb;simp [hb]
 frame:=fun i h h' st k=>⟨k it (by simp) _ st.1,st.2.keep fun ob e=>k a (by simp) ob e⟩
 item:=fun i s Q E hi st q=>by
  have pz:=zgt hf
  have hi2:i<tb.place.size:=by omega
  have bl:SetTable.below tb.place (zhN tb i)=i:=by
   cases i with
   | zero=>exact zge up
   | succ i=>
    have hi3:i<tb.place.size:=by omega
    have e:tb.place[i]? = some (tb.place.getD i 0):=by simp [hi3,Array.getD]
    exact zgn up e
  have ep':tb.place.getD i 0=tb.place[i]:=by simp [hi2,Array.getD]
  refine zkW (nx:=zhN tb (i+1)) (x:=es[i].2) st.1 st.2 rfl (fun R E' r=>zem st.2 led bt pl ?_) fun h' a1 sb=> ?_
  ·rw [bl]
   have e1:es[i]? = some es[i]:=by simp [hi]
   have e2:tb.place[i]? = some tb.place[i]:=by simp [hi2]
   rw [e1,e2]
   show R (some (es[i].2,tb.place[i]+1)) s
   have e3:zhN tb (i+1)=tb.place[i]+1:=by show tb.place.getD i 0+1=_;rw [ep']
   rw [<- e3]
   exact r
  ·exact q _ h' s.toks ⟨es[i],by simp [hi],rfl⟩ ⟨a1,st.2.keep fun ob e=>(sb.2 a hne).trans e⟩ fun b ob hb e=>(sb.2 b fun z=>hb (by simp [z])).trans e
 done:=fun s Q E st q=>by
  have pz:=zgt hf
  have bl:SetTable.below tb.place (zhN tb es.size)=es.size:=by
   cases hz:es.size with
   | zero=>exact zge up
   | succ i=>
    have hi3:i<tb.place.size:=by omega
    have e:tb.place[i]? = some (tb.place.getD i 0):=by simp [hi3,Array.getD]
    exact zgn up e
  refine zov hh st.1 st.2 rfl (fun R E' r=>zem st.2 led bt pl ?_) fun h' k=>q h' s.toks fun b ob hb e=>k b ob (fun z=>hb (by simp [z])) e
  rw [bl]
  have e1:es[es.size]? = none:=by simp
  rw [e1]
  exact r
 self:=fun i s Q E st q=>zfy st.1 q
theorem zlZ (hh:A.handled=none) {it a:Addr} {ep:Nat} {es:Array (Int×Value)} {tb:SetTable} (hne:a≠it) (bt:w.params.followText "set-order"=true) (hf:tb.fits es.size=true):
  Walks prog w A it [it,a] [it] es.size (fun i v=> ∃ e,(pickOrder (w.params.setOrder a ep) es).toList[i]? = some e/\v=e.2) (fun i h=>SIt h it a (.int (0:Nat) 0) i es.size ep/\zjz h a es ep tb) where
 sub:=fun b hb=>by simp at hb;simp [hb]
 frame:=fun i h h' st k=>⟨k it (by simp) _ st.1,st.2.keep fun ob e=>k a (by simp) ob e⟩
 item:=fun i s Q E hi st q=>by
  have pz:(pickOrder (w.params.setOrder a ep) es).size=es.size:=by
   have:=(zcW (w.params.setOrder a ep) es).length_eq
   simpa using this
  have hi2:i<(pickOrder (w.params.setOrder a ep) es).size:=by omega
  refine zkW (nx:=0) (x:=(pickOrder (w.params.setOrder a ep) es)[i].2) st.1 st.2 rfl (fun R E' r=>zeY st.2 bt ?_) fun h' a1 sb=> ?_
  ·have e1:(pickOrder (w.params.setOrder a ep) es)[i]? = some (pickOrder (w.params.setOrder a ep) es)[i]:=by simp [hi2]
   rw [e1]
   exact r
  ·exact q _ h' s.toks ⟨(pickOrder (w.params.setOrder a ep) es)[i],by simp [hi2],rfl⟩ ⟨a1,st.2.keep fun ob e=>(sb.2 a hne).trans e⟩ fun b ob hb e=>(sb.2 b fun z=>hb (by simp [z])).trans e
 done:=fun s Q E st q=>by
  have pz:(pickOrder (w.params.setOrder a ep) es).size=es.size:=by
   have:=(zcW (w.params.setOrder a ep) es).length_eq
   simpa using this
  refine zov hh st.1 st.2 rfl (fun R E' r=>zeY st.2 bt ?_) fun h' k=>q h' s.toks fun b ob hb e=>k b ob (fun z=>hb (by simp [z])) e
  have e1:(pickOrder (w.params.setOrder a ep) es)[es.size]? = none:=by simp [pz]
  rw [e1]
  exact r
 self:=fun i s Q E st q=>zfy st.1 q
theorem zkb (hh:A.handled=none) {it a tp:Addr} {ep:Nat} {es:Array (Int×Value)} {tb:SetTable} {ys:List Nat} (hne:a≠it) (hne2:tp≠it) (hp:List.Perm ys (List.range es.size)):
  Walks prog w A it [it,a,tp] [it] es.size (fun i v=> ∃ e,(ys.filterMap (es[·]?))[i]? = some e/\v=e.2) (fun i h=>SIt h it a (.ref tp) i es.size ep/\zjz h a es ep tb/\h.get? tp=some {cls:= .type "tuple",data:= .seq (ys.map fun (i:Nat)=>rawInt i).toArray}) where
 sub:=fun b hb=>by simp at hb;simp [hb]
 frame:=fun i h h' st k=>⟨k it (by simp) _ st.1,st.2.1.keep fun ob e=>k a (by simp) ob e,k tp (by simp) _ st.2.2⟩
 item:=fun i s Q E hi st q=>by
  have hl:ys.length=es.size:=by simpa using hp.length_eq
  have hi2:i<ys.length:=by omega
  have lt: ∀ y∈ys,y<es.size:=fun y hy=>by simpa using hp.mem_iff.mp hy
  have lti:=lt _ (List.getElem_mem hi2)
  have fm: ∀ (zs:List Nat),(∀ y∈zs,y<es.size)-> ∀ (j:Nat) (y:Nat),zs[j]? = some y->(zs.filterMap (es[·]?))[j]? = es[y]? := by
   intro zs
   induction zs with
   | nil=>intro _ j y e;simp at e
   | cons z r ih=>
    intro hz j y e
    have lz:=hz z (.head _)
    rw [List.filterMap_cons_some (b:=es[z]) (by simp [lz])]
    cases j with
    | zero=>simp at e;subst e;simp [lz]
    | succ j=>simpa using ih (fun y hy=>hz y (.tail _ hy)) j y (by simpa using e)
  refine zjP (p:=ys[i]) (x:=es[ys[i]].2) st.1 st.2.1 rfl st.2.2 (by simp [hi2,rawInt]) (by simp [lti]) fun h' a1 sb=> ?_
  refine q _ h' s.toks ⟨es[ys[i]],?_,rfl⟩ ⟨a1,st.2.1.keep fun ob e=>(sb.2 a hne).trans e,(sb.2 tp hne2).trans st.2.2⟩ fun b ob hb e=>(sb.2 b fun z=>hb (by simp [z])).trans e
  rw [fm ys lt i ys[i] (by simp [hi2])]
  simp [lti]
 done:=fun s Q E st q=>by
  have hl:ys.length=es.size:=by simpa using hp.length_eq
  exact zlp hh st.1 st.2.1 rfl st.2.2 (by simp [hl]) fun h' k=>q h' s.toks fun b ob hb e=>k b ob (fun z=>hb (by simp [z])) e
 self:=fun i s Q E st q=>zfy st.1 q
end
section
variable {prog:Program} {w:World} {A:Around} {E:Value->Shared->Prop} {s:Shared}
structure zpZ (prog:Program) (w:World) (a it:Addr) (es:Array (Int×Value)) (ord:List (Int×Value)) (fp:List Addr) (St:Nat->Heap->Prop):Prop where
 walks: ∀ A:Around,A.handled=none->Walks prog w A it fp [it] es.size (fun i v=> ∃ e,ord[i]? = some e/\v=e.2) St
 perm:List.Perm ord es.toList
 mem:it∈fp
theorem zuf {a:Addr} {S:Int->Bool} {n:Nat} {Q:Value->Shared->Prop} (g:zg8 prog w s.heap a S n)
  (q: ∀ it es ep tb ord fp St h' d,(∃ ob,s.heap.get? a=some ob/\ob.ExactSet/\ob.data= .set es ep tb)->zpZ prog w a it es ord fp St->St 0 h'->s.heap.objs.size<=it->(∀ b ob,s.heap.get? b=some ob->h'.get? b=some ob)->(∀ b∈fp,b=a\/s.heap.objs.size<=b)->es.size<scanBound->
    Q (.ref it) {s with heap:=h',drawn:=d}):wpAny (model prog w) A (pyIter (.ref a)) Q E s:=by
 obtain ⟨ob,es,ep,tb,⟨h1,h2,h3⟩,h4,h5,⟨h6,h7,h8⟩,h9⟩:=g
 have tS:s.TypeIs (.ref a) "set":=⟨ob,h1,h2.1⟩
 have lta:a<s.heap.objs.size:=qaQ h1
 refine wpAny_pyIter_slot tS F.slot_set_iter (wpAny_call_entry F.slot_set_iter tS zf1 ?_ (F.args_set_iter_1 _))
 unfold Builtin.«frozenset.__iter__»
 refine qaW (m:=Builtin.Frozenset.slot0 "__iter__" _) (qaX ?_)
 refine qaW (m:=Builtin.Frozenset.sizeOf a) ?_
 unfold Builtin.Frozenset.sizeOf
 refine qaW (wpAny_setEntries_of h1 h3 h7 (qaX ?_))
 refine qaW (m:=setDrawn a) ?_
 unfold setDrawn
 refine qaW (wpAny_setState_of h1 h3 h7 ?_)
 dsimp only
 unfold setsByText
 refine qaW (qaW (wpAny_askSetting (qaX (qaX ?_))))
 dsimp only
 have sobj: ∀ {h':Heap},(∀ b ob,s.heap.get? b=some ob->h'.get? b=some ob)->zjz h' a es ep tb:=fun k=>⟨⟨ob,k _ _ h1,h2,h3⟩,h7⟩
 by_cases dr:(!(model prog w).w.params.followText "set-order" && (!tb.plain && decide (es.size>1)))=true
 ·show wpAny _ _ (if (!(model prog w).w.params.followText "set-order" && (!tb.plain && decide (es.size>1)))=true then _ else _) _ _ _
  rw [qa4 dr]
  refine qaW (ze1 es.size (List.range es.size) s _ (by simp) fun ys d hp=> ?_)
  have hl:ys.length=es.size:=by simpa using hp.length_eq
  have small:es.size<=sizeLine:=fits_of_scanBound h6
  refine qaW ?_
  unfold newTuple
  refine qaC ?_ (by show (ys.map fun (i:Nat)=>rawInt i).toArray.size<=sizeLine;simp [hl];exact small)
  unfold setEpoch
  refine qaW (qaW (wpAny_setState_of (s:={s with heap:=_,drawn:=d}) (qag _ h1) h3 h7 (qaX ?_)))
  dsimp only
  refine qaW (qaC (qaX ⟨_,rfl,"set_iterator",_,⟨_,qar _ rfl,rfl⟩,zaU.lookup,?_⟩))
  have z1:(s.heap.push {cls:= .type "tuple",dict:=none,data:= .seq (ys.map fun (i:Nat)=>rawInt i).toArray}).objs.size=s.heap.objs.size+1:=qaL ..
  have kp: ∀ (o2:Obj) b ob,s.heap.get? b=some ob->((s.heap.push {cls:= .type "tuple",dict:=none,data:= .seq (ys.map fun (i:Nat)=>rawInt i).toArray}).push o2).get? b=some ob:=fun o2 b ob e=>qag _ (qag _ e)
  refine q _ es ep tb (ys.filterMap (es[·]?)) [(s.heap.push {cls:= .type "tuple",dict:=none,data:= .seq (ys.map fun (i:Nat)=>rawInt i).toArray}).objs.size,a,s.heap.objs.size] _ _ d ⟨ob,h1,h2,h3⟩ ⟨fun A' hA=>zkb (tb:=tb) (ep:=ep) hA ?_ ?_ hp,?_,.head _⟩ ⟨?_,sobj (kp _),?_⟩ ?_ (kp _) (fun b hb=> ?_) h6
  ·rw [z1];exact qaR (Nat.lt_succ_of_lt lta)
  ·rw [z1];exact qaR (Nat.lt_succ_self _)
  ·refine (hp.filterMap _).trans ?_
   rw [filterMap_getElem?_range]
  ·exact qar _ rfl
  ·exact qag _ (qar _ rfl)
  ·rw [z1];exact Nat.le_succ _
  ·simp only [qaP,qaF,or_false] at hb
   rcases hb with z | z | z
   ·right;rw [z,z1];exact Nat.le_succ _
   ·exact .inl z
   ·right;rw [z];exact qaV _
 ·show wpAny _ _ (if (!(model prog w).w.params.followText "set-order" && (!tb.plain && decide (es.size>1)))=true then _ else _) _ _ _
  rw [qa5 dr]
  refine qaW (qaX ?_)
  unfold setEpoch
  refine qaW (qaW (wpAny_setState_of h1 h3 h7 (qaX ?_)))
  dsimp only
  refine qaW (qaC (qaX ⟨_,rfl,"set_iterator",_,⟨_,qar _ rfl,rfl⟩,zaU.lookup,?_⟩))
  have kp: ∀ (o2:Obj) b ob,s.heap.get? b=some ob->(s.heap.push o2).get? b=some ob:=fun o2 b ob e=>qag _ e
  have fpl: ∀ b∈[s.heap.objs.size,a],b=a\/s.heap.objs.size<=b:=fun b hb=>by
   simp only [qaP,qaF,or_false] at hb
   rcases hb with z | z
   ·right;rw [z];exact qaV _
   ·exact .inl z
  cases bt:w.params.followText "set-order" with
  | true=>
   exact q _ es ep tb _ [s.heap.objs.size,a] _ _ s.drawn ⟨ob,h1,h2,h3⟩ ⟨fun A' hA=>zlZ (tb:=tb) (ep:=ep) hA (qaR lta) bt h7,zcW _ _,.head _⟩ ⟨qar _ rfl,sobj (kp _)⟩ (qaV _) (kp _) fpl h6
  | false=>
   have pl:(!tb.plain && decide (es.size>1))=false:=by
    rw [show (model prog w).w.params.followText "set-order"=false from bt] at dr
    simpa using dr
   have led:tb.led=true:=by
    rw [h9.led]
    unfold zc9
    rw [bt]
    rfl
   exact q _ es ep tb _ [s.heap.objs.size,a] _ _ s.drawn ⟨ob,h1,h2,h3⟩ ⟨fun A' hA=>zjF (tb:=tb) (ep:=ep) hA (qaR lta) h9.up led bt pl h7,.rfl,.head _⟩ ⟨qar _ rfl,sobj (kp _)⟩ (qaV _) (kp _) fpl h6
theorem znL {a:Addr} {S:Int->Bool} {n:Nat} {Q:List Value->Shared->Prop} (hh:A.handled=none) (g:zg8 prog w s.heap a S n)
  (q: ∀ vs s' es ep tb,(∃ ob,s.heap.get? a=some ob/\ob.ExactSet/\ob.data= .set es ep tb)->List.Perm vs (es.toList.map (·.2))->(∀ b ob,s.heap.get? b=some ob->s'.heap.get? b=some ob)->s'.gens=s.gens->s'.os=s.os->Q vs s'):wpAny (model prog w) A (collect (.ref a)) Q E s:=by
 have tS: ∀ {h':Heap} {s':Shared},s'.heap=h'->(∀ b ob,s.heap.get? b=some ob->h'.get? b=some ob)->s'.TypeIs (.ref a) "set":=fun {h' s'} e k=>by
  obtain ⟨ob,es,ep,tb,⟨h1,h2,h3⟩,_⟩:=g
  exact ⟨ob,by rw [e];exact k _ _ h1,h2.1⟩
 have lta:a<s.heap.objs.size:=by
  obtain ⟨ob,es,ep,tb,⟨h1,h2,h3⟩,_⟩:=g
  exact qaQ h1
 unfold collect
 refine qaW (wpAny_runValue (codeAny_builtin F.entry_proto_collect ?_))
 rw [qap F.plain_proto_collect _]
 show wpAny _ _ (newList []>>=fun l=>again (.builtin "list.__iadd__" ⟨[l,.ref a],[]⟩)) _ _ _
 refine qaW (qaC (qaX ⟨plainId_quiet F.plain_list_iadd _,codeAny_builtin F.entry_list_iadd ?_⟩))
 rw [qap F.plain_list_iadd _]
 show wpAny _ _ (Builtin.List.listExtendWith (.ref s.heap.objs.size) (.ref a) (.ref s.heap.objs.size)) _ _ _
 unfold Builtin.List.listExtendWith
 have k1: ∀ b ob,s.heap.get? b=some ob->(s.heap.push {cls:= .type "list",data:= .seq ([]:List Value).toArray}).get? b=some ob:=fun b ob e=>qag _ e
 refine qaW (wpAny_typeOf (tS rfl k1) ?_)
 have nsame:Builtin.List.listSameRef (.ref s.heap.objs.size) (.ref a)=false:=by
  simp only [Builtin.List.listSameRef,beq_eq_false_iff_ne]
  exact fun z=>qaN _ (z▸lta)
 have nl:(Value.type "set"==Value.type "list")=false:=by decide
 have nt:(Value.type "set"==Value.type "tuple")=false:=by decide
 simp only [nsame,nl,nt,Bool.or_false,qax,if_false]
 refine qaW (zuf (g.move (fun ob e=>k1 _ _ e) (fun _=>rfl) rfl) fun it es ep tb ord fp St h2 d hob W st0 lit k2 fpl few=> ?_)
 refine qaW (qaO ?_)
 unfold Builtin.List.listLengthHint
 have k12: ∀ b ob,s.heap.get? b=some ob->h2.get? b=some ob:=fun b ob e=>k2 b ob (k1 b ob e)
 refine qaW (wpAny_specialOf (tS rfl k12) F.slot_set_len.lookup ?_)
 have sp:splitId "set.__len__"=some ("set","__len__"):=by decide +kernel
 dsimp only
 rw [sp]
 dsimp only
 refine qaW (wpAny_isInstance (tS rfl k12) sub_set_self ?_)
 rw [qa5 (by decide)]
 rw [qa4 (by decide +kernel)]
 refine qaW (wpAny_typeOf (tS rfl k12) (qaX ?_))
 rw [qa4 (by decide +kernel)]
 refine qaW (wpAny_rule ?_)
 have l2:h2.get? s.heap.objs.size=some {cls:= .type "list",data:= .seq ([]:List Value).toArray}:=k2 _ _ (qar _ rfl)
 refine qaW ?_
 unfold Builtin.List.listTouch
 show wpAny _ _ (updateSeq s.heap.objs.size (·.push .none)>>=fun _=>updateSeq s.heap.objs.size (·.pop)) _ _ _
 refine qaW (wpAny_updateSeq l2 rfl ?_)
 have l3:=qal (Obj.mapSeq (·.push Value.none)) l2 rfl
 refine wpAny_updateSeq l3 rfl ?_
 have l4:=qal (Obj.mapSeq (·.pop)) l3 rfl
 have oth: ∀ b ob,b≠s.heap.objs.size->h2.get? b=some ob->((h2.update s.heap.objs.size (Obj.mapSeq (·.push Value.none))).update s.heap.objs.size (Obj.mapSeq (·.pop))).get? b=some ob:=fun b ob hb e=>
  (qah _ _ (Ne.symm hb)).trans ((qah _ _ (Ne.symm hb)).trans e)
 have nfp:s.heap.objs.size∉fp:=fun z=>by
  rcases fpl _ z with z | z
  ·exact qaN _ (z▸lta)
  ·rw [show ({s with heap:=s.heap.push {cls:= .type "list",data:= .seq ([]:List Value).toArray}}:Shared).heap.objs.size=s.heap.objs.size+1 from qaL ..] at z
   exact qaN _ z
 have fin: ∀ (s':Shared) (vs:Array Value) (c:Nat),(∀ b ob,s.heap.get? b=some ob->s'.heap.get? b=some ob)->s'.gens=s.gens->s'.os=s.os->s'.heap.get? s.heap.objs.size=some {cls:= .type "list",dict:=none,data:= .seq vs c,slots:= #[]}->ItemsOf (fun i v=> ∃ e,ord[i]? = some e/\v=e.2) vs es.size->
   wpAny (model prog w) A (load s.heap.objs.size>>=fun o=>match o.data with | .seq xs _=>pure xs.toList | _=>unsupported "internal:collect") Q E s':=fun s' vs c k g1 g2 e it1=>by
  refine qaW (wpAny_load e (qaX (q vs.toList s' es ep tb ?_ ?_ k g1 g2)))
  ·obtain ⟨ob,o1,o2⟩:=hob
   obtain ⟨ob',es',ep',tb',⟨p1,p2,p3⟩,_⟩:=g
   have:=k1 _ _ p1
   rw [o1] at this
   cases this
   exact ⟨ob,p1,o2⟩
  ·have hl:ord.length=es.size:=by simpa using W.perm.length_eq
   have e2:vs.toList=ord.map (·.2):=by
    apply List.ext_getElem?
    intro i
    by_cases hi:i<es.size
    ·have hv0:i<vs.size:=by rw [it1.1];exact hi
     have hv:vs[i]? = some vs[i]:=by simp [hv0]
     obtain ⟨e,e1,e2⟩:=it1.2 i _ hv
     rw [List.getElem?_map,e1,Array.getElem?_toList,hv,e2]
     rfl
    ·rw [List.getElem?_eq_none (by simp [it1.1];omega),List.getElem?_eq_none (by simp [hl];omega)]
   rw [e2]
   exact W.perm.map _
 have Wk:=(W.walks A.in1 hh).toS
 refine qaX ⟨plainId_quiet F.plain_extend_loop _,codeAny_extend_loopS Wk ?_ _ nfp _ es.size 0 _ _ _ rfl (Nat.zero_le _) ?_ l4 (ItemsOf.nil _) fun s' vs c mv e it1=> ?_⟩
 ·exact fits_of_scanBound few
 ·exact (W.walks A.in1 hh).frame 0 h2 _ st0 fun b hb ob e=>oth b ob (fun z=>nfp (z▸hb)) e
 ·refine fin s' vs c (fun b ob e'=>mv.heap b ob ?_ (oth b ob ?_ (k12 b ob e'))) mv.gens mv.os e it1
  ·intro z
   rcases qaP.mp z with z | z
   ·exact qaN _ (z▸qaQ e')
   ·simp only [qaP,qaF,or_false] at z
    have:=qaQ e'
    rw [z] at this
    exact qaN _ (qaw this (qaS (by rw [qaL];exact Nat.le_succ _) lit))
  ·exact fun z=>qaN _ (z▸qaQ e')
end
noncomputable def znX (x:Int):List Int->List Int
 | []=>[x]
 | y::r=>if x<=y then x::y::r else y::znX x r
noncomputable def zeH:List Int->List Int
 | []=>[]
 | x::r=>znX x (zeH r)
theorem zfk (x:Int): ∀ l:List Int,List.Perm (znX x l) (x::l)
 | []=> .rfl
 | y::r=>by
  unfold znX
  split
  ·exact .rfl
  ·exact ((zfk x r).cons y).trans (.swap x y r)
theorem zmH {x z:Int} {l:List Int}:z∈znX x l↔z=x\/z∈l:=by rw [(zfk x l).mem_iff,qaP]
theorem zmb (x:Int): ∀ l:List Int,l.Pairwise (· <= ·)->(znX x l).Pairwise (· <= ·)
 | [],_=>by unfold znX;simp
 | y::r,h=>by
  obtain ⟨h1,h2⟩:=qay.mp h
  unfold znX
  split
  ·rename_i hxy
   refine qay.mpr ⟨fun z hz=> ?_,h⟩
   rcases qaP.mp hz with e | hz
   ·rw [e];exact hxy
   ·exact Int.le_trans hxy (h1 z hz)
  ·rename_i hxy
   refine qay.mpr ⟨fun z hz=> ?_,zmb x r h2⟩
   rcases zmH.mp hz with e | hz
   ·rw [e];omega
   ·exact h1 z hz
theorem za6: ∀ l:List Int,List.Perm (zeH l) l
 | []=> .rfl
 | x::r=>(zfk x _).trans ((za6 r).cons x)
theorem zev: ∀ l:List Int,(zeH l).Pairwise (· <= ·)
 | []=> .nil
 | x::r=>zmb x _ (zev r)
theorem zer {a b:List Int} (hp:a.Perm b) (h:a.Pairwise (· <= ·)):a=zeH b:=W.ksm_same (hp.trans (za6 b).symm) h (zev b)
noncomputable def zeF (ns:List Int):List Int:=zeH (ns.foldl step_dedup [])
theorem zln (ns:List Int): ∀ (acc:List Int) (k:Int),(ns.foldl step_dedup acc).any (· == k)=(acc.any (· == k) || ns.any (· == k)):=by
 induction ns with
 | nil=>intro acc k;simp
 | cons x r ih=>
  intro acc k
  rw [List.foldl_cons,ih,step_any]
  simp only [List.any_cons]
  have:(x==k)=decide (k=x):=by
   by_cases h:k=x
   ·subst h;simp
   ·have h': ¬x=k:=fun e=>h e.symm
    simp [h,h']
  rw [this,Bool.or_assoc]
theorem zhX {ns:List Int} {k:Int}:k∈ns.foldl step_dedup []↔k∈ns:=by
 have:=zln ns [] k
 simp only [List.any_nil,Bool.false_or] at this
 have e: ∀ l:List Int,k∈l↔(l.any fun x=>x==k)=true:=fun l=>by
  rw [List.any_eq_true]
  constructor
  ·exact fun h=>⟨k,h,by simp⟩
  ·rintro ⟨x,h,c⟩
   have c:x=k:=by simpa using c
   rw [<- c]
   exact h
 rw [e,e,this]
theorem zea (ns:List Int): ∀ acc:List Int,acc.Nodup->(ns.foldl step_dedup acc).Nodup:=by
 induction ns with
 | nil=>intro acc h;exact h
 | cons x r ih=>
  intro acc h
  refine ih _ ?_
  unfold step_dedup
  split
  ·exact h
  ·rename_i hx
   rw [List.nodup_append]
   refine ⟨h,by simp,fun a ha b hb=> ?_⟩
   simp only [List.mem_singleton] at hb
   subst hb
   intro e
   subst e
   exact hx (List.any_eq_true.mpr ⟨a,ha,by simp⟩)
theorem zeD {ns:List Int} {k:Int}:k∈zeF ns↔k∈ns:=by unfold zeF;rw [(za6 _).mem_iff,zhX]
theorem zeJ (ns:List Int):(zeF ns).Pairwise (· < ·):=by
 have h1:=zev (ns.foldl step_dedup [])
 have h2:(zeF ns).Nodup:=(za6 _).nodup_iff.mpr (zea ns [] List.nodup_nil)
 exact (List.Pairwise.and h1 h2).imp fun ⟨a,b⟩=>by omega
theorem zfH (ns:List Int):firstMet (fun i=>ns.getD i 0) ns.length=ns.foldl step_dedup []:=by
 unfold firstMet
 congr 1
 apply List.ext_getElem?
 intro i
 by_cases hi:i<ns.length
 ·simp [hi,List.getD]
 ·rw [List.getElem?_eq_none (by simp;omega),List.getElem?_eq_none (by omega)]
theorem zfD: ∀ {fm ms:List Int},fm.Nodup->(∀ k,k∈fm->k∈ms)->ms.length<=fm.length->List.Perm ms fm
 | [],ms,_,_,h=>by
  have:ms=[]:=List.length_eq_zero_iff.mp (by simpa using h)
  subst this
  exact .rfl
 | x::r,ms,nd,hm,h=>by
  obtain ⟨n1,n2⟩:=List.nodup_cons.mp nd
  have hx:=hm x (.head _)
  have p:=List.perm_cons_erase hx
  have hl:=p.length_eq
  rw [qaE] at hl h
  refine p.trans ((zfD n2 (fun k hk=> ?_) (by omega)).cons x)
  have hne:k≠x:=fun e=>n1 (e▸hk)
  rcases qaP.mp (p.mem_iff.mp (hm k (.tail _ hk))) with e | e
  ·exact absurd e hne
  ·exact e
section
variable {prog:Program} {w:World} {A:Around} {E:Value->Shared->Prop} {s:Shared}
theorem zhh {l l':List Value} {ns:List Int} (p:List.Perm l l') (h:IntsAre l' ns): ∃ ms,IntsAre l ms/\List.Perm ms ns:=by
 induction p generalizing ns with
 | nil=>exact ⟨ns,h,.rfl⟩
 | cons x _ ih=>
  cases h with
  | cons n t h=>
   obtain ⟨ms,h1,h2⟩:=ih h
   exact ⟨n::ms,.cons n t h1,h2.cons n⟩
 | swap x y l=>
  cases h with
  | cons n t h=>
   cases h with
   | cons n' t' h=>exact ⟨n'::n::_,.cons n' t' (.cons n t h),.swap _ _ _⟩
 | trans _ _ ih1 ih2=>
  obtain ⟨ms,h1,h2⟩:=ih2 h
  obtain ⟨ms',h3,h4⟩:=ih1 h1
  exact ⟨ms',h3,h4.trans h2⟩
theorem zgd: ∀ {es:List (Int×Value)},ElemsOf (intKind prog w) es-> ∃ ms,IntsAre (es.map (·.2)) ms/\ ∀ k,k∈ms↔ ∃ e∈es,(intKind prog w).is k e.2=true
 | [],_=>⟨[],.nil,fun k=>by simp⟩
 | e::r,h=>by
  obtain ⟨ms,h1,h2⟩:=zgd (ElemsOf.tail h)
  obtain ⟨⟨k,hk,_⟩,_⟩:=ElemsOf.head h
  obtain ⟨t,ht⟩:=Value.isInt_shape (k:=k) (v:=e.2) hk
  refine ⟨k::ms,by rw [qaM,ht];exact .cons k t h1,fun z=> ?_⟩
  rw [qaP,h2 z]
  constructor
  ·rintro (c | ⟨e',c1,c2⟩)
   ·exact ⟨e,.head _,by rw [c];exact hk⟩
   ·exact ⟨e',.tail _ c1,c2⟩
  ·rintro ⟨e',c1,c2⟩
   rcases qaP.mp c1 with c | c
   ·subst c;exact .inl ((intKind prog w).inj _ _ _ c2 hk)
   ·exact .inr ⟨e',c,c2⟩
theorem zfx {x:Value} {Q:Value->Shared->Prop} (hc: ∀ E':Value->Shared->Prop,wpAny (model prog w) A.in1 (collect x) (fun vs s1=> ∃ ns,IntsAre vs ns/\vs.length<64/\ ∀ out e h',IntsAre out (zeH ns)->(∀ b ob,s1.heap.get? b=some ob->h'.get? b=some ob)->
      h'.get? s1.heap.objs.size=some (seqObj "list" out.toArray e)->Q (.ref s1.heap.objs.size) {s1 with heap:=h'}) E' s):wpAny (model prog w) A (call (.builtin "sorted") [x]) Q E s:=by
 refine Calls.call_function_entry kind_sorted plain_sorted entry_sorted (args_sorted1 _) ?_
 unfold Builtin.«sorted»
 refine qaW (m:=checkCount "sorted" 1 1 _) (qaX ?_)
 refine qaW (m:=collect x) (qaZ (hc _) (fun vs s1 ⟨ns,hI,h64,q⟩=> ?_) fun _ _ z=>z)
 have small:vs.length<=sizeLine:=qaS (Nat.le_of_lt h64) (by decide)
 refine qaW (wpAny_newList ?_ small)
 have at0:(s1.heap.push {cls:= .type "list",data:= .seq vs.toArray}).get? s1.heap.objs.size=some (seqObj "list" vs.toArray 0):=qar _ rfl
 refine qaW (qaO (wpAny_call_entry slot_list_sort ⟨_,at0,rfl⟩ entry_list_sort (list_sort_tree (s:={s1 with heap:=s1.heap.push {cls:= .type "list",data:= .seq vs.toArray}}) at0 hI h64 fun out ns' a1 a2 a3=>⟨_,rfl,?_⟩) (args_list_sort _)))
 obtain ⟨e,he⟩:=sortedHeap_at (out:=out) at0
 refine qaX ⟨_,rfl,q out.toList e _ ?_ (fun b ob eb=> ?_) (by simpa using he)⟩
 ·rw [<- zer a2 a3];exact a1
 ·have lt:=qaQ eb
  rw [sortedHeap_old (qaR lt) (by rw [qaL];exact Nat.lt_succ_of_lt lt)]
  exact qag _ eb
theorem zih {l:Addr} {vs:List Value} {Q:List Value->Shared->Prop} (hl:s.heap.IsTuple l vs.toArray) (small:vs.length<=sizeLine)
  (q: ∀ h',(∀ b ob,s.heap.get? b=some ob->h'.get? b=some ob)->Q vs {s with heap:=h'}):wpAny (model prog w) A (collect (.ref l)) Q E s:=by
 obtain ⟨ob,ho,hc,n,hd⟩:=id hl
 unfold collect
 refine qaW (wpAny_runValue (codeAny_builtin F.entry_proto_collect ?_))
 rw [qap F.plain_proto_collect _]
 show wpAny _ _ (newList []>>=fun d=>again (.builtin "list.__iadd__" ⟨[d,.ref l],[]⟩)) _ _ _
 refine qaW (qaC (qaX ⟨plainId_quiet F.plain_list_iadd _,codeAny_builtin F.entry_list_iadd ?_⟩))
 rw [qap F.plain_list_iadd _]
 show wpAny _ _ (Builtin.List.listExtendWith (.ref s.heap.objs.size) (.ref l) (.ref s.heap.objs.size)) _ _ _
 unfold Builtin.List.listExtendWith
 have ho':(s.heap.push {cls:= .type "list",data:= .seq ([]:List Value).toArray}).get? l=some ob:=qag _ ho
 have d0:(s.heap.push {cls:= .type "list",data:= .seq ([]:List Value).toArray}).get? s.heap.objs.size=some (seqObj "list" #[] 0):=qar _ rfl
 refine qaW (wpAny_typeOf (T:="tuple") ⟨ob,ho',hc⟩ ?_)
 rw [qa4 (by simp)]
 refine qaW (listItems_at ho' hd ?_)
 refine qaW (listItems_at d0 rfl ?_)
 rw [qa5 (by simp)]
 refine qaW (listUpdate_at (xs:= #[]) (n:=0) d0 rfl ?_ (Nat.zero_le _) (by show (#[]++vs.toArray).size<=sizeLine+1;simp;omega))
 refine qaX ?_
 show wpAny _ _ (load s.heap.objs.size>>=fun o=>match o.data with | .seq xs _=>pure xs.toList | _=>unsupported "internal:collect") _ _ _
 refine qaW (wpAny_load (get?_update_seq d0 _) ?_)
 have z:=q ((s.heap.push {cls:= .type "list",data:= .seq ([]:List Value).toArray}).update s.heap.objs.size (Obj.mapSeq fun x=>x++vs.toArray)) fun b ob e=>(qah _ _ (fun z=>qaN _ (z▸qaQ e))).trans (qag _ e)
 show wpAny _ _ (pure ((#[]:Array Value)++vs.toArray).toList) _ _ _
 rw [show ((#[]:Array Value)++vs.toArray).toList=vs by simp]
 exact qaX z
end
end LT
namespace L2
open PySem PySem.Spec PyProof.Rows LT
section
variable {X:Cx}
noncomputable def zkX (P:Program) (w:World) (p:Addr) (ns:List Int):HO:= .ext fun h=>zg8 P w h p (fun z=>(ns.foldl step_dedup []).any (· == z)) (ns.foldl step_dedup []).length
theorem zlg (ns:List Int):(ns.foldl step_dedup []).length<=ns.length:=by
 rw [<- zfH]
 exact firstMet_length_le _ _
theorem zkK (hc:X.calm=true):za0 X (.type "set") (fun xs H Q=> ∃ (a:Addr) (ns:List Int),xs=[.ref a]/\(SqL X.K H a (ns.map V.int)\/SqT X.K H a (ns.map V.int))/\ns.length<4000/\ ∀ p,H p=none->Q (.ref p) (upd H p (zkX X.prog X.w p ns))):=by
 intro pins s σ H xs us Q I r h
 obtain ⟨a,ns,rfl,hq,hl,q⟩:=h
 obtain ⟨u,rfl,rx⟩:=zeO r
 cases rx
 have fin: ∀ (items:Array Value),items.size=ns.length-> ∀ (h':Heap) (tk:Nat),zg8 X.prog X.w h' s.heap.objs.size (fun z=>(firstMet (fun i=>ns.getD i 0) items.size).any (· == z)) (firstMet (fun i=>ns.getD i 0) items.size).length->(∀ b ob,s.heap.get? b=some ob->h'.get? b=some ob)->
   EP X pins σ Q (.ref s.heap.objs.size) {s with heap:=h',toks:=tk}:=fun items hz h' tk g k=>by
  rw [hz,zfH] at g
  refine ⟨.ref s.heap.objs.size,_,I.laid (t':=tk) (o:=zkX X.prog X.w s.heap.objs.size ns) k (qaV _) ⟨g,?_,fun h1 h2 z e=>z.move e (fun _=>rfl) rfl⟩,rfl,q _ (I.hok.fresh (qaV _))⟩
  obtain ⟨ob,es,ep,tb,⟨h1,_⟩,_⟩:=g
  exact ⟨ob,h1⟩
 have room:ns.length+1<scanBound:=by
  have:scanBound=4096:=rfl
  omega
 rcases hq with hq | hq
 ·obtain ⟨its,r',pl,_⟩:=I.list hq
  have hz:its.toArray.size=ns.length:=by rw [qaA, <-r'.length,qaH]
  exact zus (I.ok.hd hc) (.inl ⟨rfl,pl.isList⟩) (by simpa using zdM r') (by rw [hz];exact room) fun h' tk g k=>fin _ hz h' tk g k
 ·obtain ⟨its,r',pl,_⟩:=I.tuple hq
  have hz:its.toArray.size=ns.length:=by rw [qaA, <-r'.length,qaH]
  exact zus (I.ok.hd hc) (.inr ⟨rfl,pl⟩) (by simpa using zdM r') (by rw [hz];exact room) fun h' tk g k=>fin _ hz h' tk g k
theorem Inv.grown {pins:List (Addr×Obj)} {σ:St} {H:Hp} {s s':Shared} (I:Inv X pins σ H s) (ho:s'.os=s.os) (hg:s'.gens=s.gens) (k: ∀ b ob,s.heap.get? b=some ob->s'.heap.get? b=some ob):Inv X pins σ H s':=
 I.call' (ch:=[]) ho (Un.kept k) (I.hok.kept k) (by rw [hg];exact I.bare) fun b z=>nomatch z
theorem zni {out:List Value} {ms:List Int} (h:IntsAre out ms):za7 (ms.map V.int) out:=zfN h
theorem zhl (hc:X.calm=true):za0 X (.builtin "sorted") (fun xs H Q=> ∃ (p:Addr) (ns:List Int),xs=[.ref p]/\((((ns.foldl step_dedup []).length<64/\H p=some (zkX X.prog X.w p ns))/\ ∀ l,H l=none->Q (.ref l) (upd H l (.lst ((zeF ns).map V.int))))\/
    ((ns.length<64/\(SqL X.K H p (ns.map V.int)\/SqT X.K H p (ns.map V.int)))/\ ∀ l,H l=none->Q (.ref l) (upd H l (.lst ((zeH ns).map V.int)))))):=by
 intro pins s σ H xs us Q I r h
 obtain ⟨p,ns,rfl,h⟩:=h
 obtain ⟨u,rfl,rx⟩:=zeO r
 cases rx
 have fin: ∀ (s1:Shared) (ms:List Int),ms.length<=64->(∀ b ob,s.heap.get? b=some ob->s1.heap.get? b=some ob)->s1.gens=s.gens->s1.os=s.os->(∀ l,H l=none->Q (.ref l) (upd H l (.lst ((zeH ms).map V.int))))-> ∀ out e h',IntsAre out (zeH ms)->(∀ b ob,s1.heap.get? b=some ob->h'.get? b=some ob)->
   h'.get? s1.heap.objs.size=some (seqObj "list" out.toArray e)->EP X pins σ Q (.ref s1.heap.objs.size) {s1 with heap:=h'}:=fun s1 ms hm k g1 o1 q out e h' hi k2 e2=>by
  have I1:=I.grown o1 g1 k
  refine ⟨.ref s1.heap.objs.size,_,I1.laid (t':=s1.toks) (o:= .lst ((zeH ms).map V.int)) k2 (qaV _) ⟨?_,out,e,zni hi,e2⟩,rfl,q _ (I1.hok.fresh (qaV _))⟩
  rw [qaH,(za6 ms).length_eq]
  exact qaS hm (by decide)
 rcases h with ⟨⟨hl,hs⟩,q⟩ | ⟨⟨hl,hq⟩,q⟩
 ·obtain ⟨g,_⟩:=(show zbU X.prog X.w H s.heap p (zkX X.prog X.w p ns) from I.hok p _ hs)
  refine zfx fun E'=>znL (show X.A.in1.handled=none from I.ok.hd hc) g fun vs s1 es ep tb hob pv k g1 o1=> ?_
  obtain ⟨ob',es',ep',tb',⟨a1,a2,a3⟩,h4,h5,⟨h6,h7,h8⟩,h9⟩:=g
  obtain ⟨ob,b1,b2,b3⟩:=hob
  rw [a1] at b1
  cases b1
  rw [a3] at b3
  cases b3
  obtain ⟨ms,m1,m2⟩:=zgd h4
  obtain ⟨ms',m3,m4⟩:=zhh pv m1
  have len:ms.length=(ns.foldl step_dedup []).length:=by
   rw [<- m1.length,qaH,qas]
   exact h8
  have pm:List.Perm ms (ns.foldl step_dedup []):=zfD (zea ns [] List.nodup_nil) (fun z hz=>by
    rw [m2 z, <-h5 z]
    exact List.any_eq_true.mpr ⟨z,hz,by simp⟩) (Nat.le_of_eq len)
  have es1:zeH ms'=zeF ns:=by
   unfold zeF
   exact zer ((za6 ms').trans (m4.trans pm)) (zev ms')
  have lm:ms'.length<64:=by
   rw [m4.length_eq,len]
   exact hl
  refine ⟨ms',m3,by rw [m3.length];omega,fun out e h' hi k2 e2=> ?_⟩
  exact fin s1 ms' (by omega) k g1 o1 (by rw [es1];exact q) out e h' hi k2 e2
 ·rcases hq with hq | hq
  ·obtain ⟨its,r',pl,hz⟩:=I.list hq
   have hi:=zdM r'
   have lz:its.length=ns.length:=by rw [<- r'.length,qaH]
   refine zfx fun E'=>collect_list pl.isList ?_ (by rw [lz, <-qaH (f:=V.int)];exact hz)
   refine ⟨ns,hi,by omega,fun out e h' hi2 k2 e2=> ?_⟩
   refine fin {s with heap:=(s.heap.push (seqObj "list" #[] 0)).update s.heap.objs.size (Obj.mapSeq fun x=>x++its.toArray)} ns (by omega) (fun b ob eb=> ?_) rfl rfl q out e h' hi2 k2 e2
   exact (qah _ _ (fun z=>qaN _ (z▸qaQ eb))).trans (qag _ eb)
  ·obtain ⟨its,r',pl,hz⟩:=I.tuple hq
   have hi:=zdM r'
   have lz:its.length=ns.length:=by rw [<- r'.length,qaH]
   refine zfx fun E'=>zih pl (by rw [lz, <-qaH (f:=V.int)];exact hz) fun h1 k1=> ?_
   refine ⟨ns,hi,by omega,fun out e h' hi2 k2 e2=> ?_⟩
   exact fin {s with heap:=h1} ns (by omega) k1 rfl rfl q out e h' hi2 k2 e2
theorem zlh (hc:X.calm=true):za0 X (.builtin "all") (fun xs H Q=> ∃ (a:Addr) (bs:List Bool),xs=[.ref a]/\SqL X.K H a (bs.map V.bl)/\Q (.bl (bs.all id)) H):=by
 intro pins s σ H xs us Q I r h
 obtain ⟨a,bs,rfl,hq,q⟩:=h
 obtain ⟨u,rfl,rx⟩:=zeO r
 cases rx
 obtain ⟨its,r',pl,hz⟩:=I.list hq
 have hlt:a<s.heap.objs.size:=by obtain ⟨_,e,_⟩:=pl.isList;exact qaQ e
 refine call_all_walk (wpAny_pyIter_list pl.isList ?_)
 refine ⟨s.heap.objs.size,[s.heap.objs.size,a],[s.heap.objs.size],its.toArray.size,_,_,fun i=>(bs[i]?).getD true,rfl,Walks.list (A:=X.A.in1) (I.ok.hd hc) _ a (qaR hlt) its.toArray,⟨⟨_,qar _ rfl,rfl,rfl⟩,pl.isList.push _⟩,fun i v s' Q' E' hP hQ=> ?_,fun h' tk hk=> ?_⟩
 ·have hv:its[i]? = some v:=by simpa using hP
  obtain ⟨hi,_⟩:=qac.mp hv
  have hlen:bs.length=its.length:=by rw [<- r'.length,qaH]
  have hb:(bs.map V.bl)[i]? = some (V.bl bs[i]):=by simp [hlen,hi]
  obtain ⟨u',hu,ru⟩:=r'.get hb
  rw [hv] at hu
  cases hu
  cases ru
  have e:(bs[i]?).getD true=bs[i]:=by simp [hlen,hi]
  have hQ:Q' ((bs[i]?).getD true) s':=hQ
  rw [e] at hQ
  exact wpAny_truthy_bool hQ
 ·have e:((List.range its.toArray.size).all fun i=>(bs[i]?).getD true)=bs.all id:=by
   have hlen:bs.length=its.length:=by rw [<- r'.length,qaH]
   rw [qaA, <-hlen]
   rw [Bool.eq_iff_iff,List.all_eq_true,List.all_eq_true]
   constructor
   ·intro h x hx
    obtain ⟨i,hi⟩:=List.mem_iff_getElem?.mp hx
    have hl:=(qac.mp hi).1
    have:=h i (by simpa using hl)
    rw [hi] at this
    exact this
   ·intro h i hi
    have hl:i<bs.length:=by simpa using hi
    have e1:bs[i]? = some bs[i]:=by simp [hl]
    rw [e1]
    exact h _ (List.getElem_mem hl)
  rw [e]
  refine ⟨.bl _,H,I.grown (s':={s with heap:=h',toks:=tk}) rfl rfl fun b ob eb=>hk b ob (fun z=> ?_) (qag _ eb),rfl,q⟩
  simp only [qaP,qaF,or_false] at z
  exact qaN _ (z▸qaQ eb)
end
end L2
namespace L3
open PySem PySem.Spec PyProof.Rows L2 LT
section
variable {X:Cx} {E:XE} {e:Expr} {es:List Expr} {pos p:Pos} {fs:Sd->M (List D)} {x:Str}
theorem znN {id:String} {F:List D->M D} (hc:za0 X (.builtin id) (zjL X.K E F)) (hg:Gl X x) (hm:X.mg x=none) (hv:bootBuiltins x=some (.builtin id)) (ha:SA X E (e::es) fs) (hn:x≠"__name__":=by decide) (hdb:(x==("__debug__":Str))=false:=by decide)
  (he:starEach (e::es) X.env=(false,eval e X.env)::starEach es X.env:=by rfl) (hpl:(backTo pos (starEach es X.env)).any (·.1)=false:=by rfl):SE X E (.Call (.Name x p) (e::es) [] pos) (fun sd=>do let ds<-fs sd;F ds):=
 PE.imp (ze9 hc hg hm hv ha hn hdb he hpl) fun σ H Q ⟨ι,h,sd,L,hh,q⟩=>⟨ι,h,sd,L,hh,Fin.bind q fun ds h1 ι1 H1 e1 s1 hr1 q1 vs rv=>⟨ι1,h1,ds,rv,hr1,q1⟩⟩
theorem zls {T:String} {F:List D->M D} (hc:za0 X (.type T) (zjL X.K E F)) (hg:Gl X x) (hm:X.mg x=none) (hv:bootBuiltins x=some (.type T)) (ha:SA X E (e::es) fs) (hn:x≠"__name__":=by decide) (hdb:(x==("__debug__":Str))=false:=by decide)
  (he:starEach (e::es) X.env=(false,eval e X.env)::starEach es X.env:=by rfl) (hpl:(backTo pos (starEach es X.env)).any (·.1)=false:=by rfl):SE X E (.Call (.Name x p) (e::es) [] pos) (fun sd=>do let ds<-fs sd;F ds):=
 PE.imp (zc2 hc hg hm hv ha hn hdb he hpl) fun σ H Q ⟨ι,h,sd,L,hh,q⟩=>⟨ι,h,sd,L,hh,Fin.bind q fun ds h1 ι1 H1 e1 s1 hr1 q1 vs rv=>⟨ι1,h1,ds,rv,hr1,q1⟩⟩
noncomputable def zkT:D->M (List D)
 | .tup ds=>pure ds
 | .lst ds=>pure ds
 | .scr ds=>pure ds
 | .cel n=>zar n
 | _=>M.bad
theorem zdG {K:W.Frag} {ι:Io} {H:Hp} {h:Hh} {d:D} {v:V} {α:Type} {f:List D->M α} {P:α->Io->Hp->Prop} (hr:zbg K ι H h) (r:Rel K ι H d v) (q:Fin K E ι H ((do let ds<-zkT d;f ds) h) P):
  ∃ a vs ds,v= .ref a/\((SqL K H a vs/\ ∀ ts,d≠ .tup ts)\/(SqT K H a vs/\d= .tup ds))/\zat K ι H ds vs/\Fin K E ι H (f ds h) P:=by
 cases d with
 | tup ds=>
  obtain ⟨a,vs,e,h1,h2⟩:=zds r
  exact ⟨a,vs,ds,e,.inr ⟨h1,rfl⟩,h2,q⟩
 | lst ds=>
  obtain ⟨a,vs,e,h1,h2⟩:=zfM r
  exact ⟨a,vs,ds,e,.inl ⟨h1,fun _ z=>by cases z⟩,h2,q⟩
 | scr ds=>
  obtain ⟨a,vs,e,h1,h2⟩:=zkY r
  exact ⟨a,vs,ds,e,.inl ⟨h1,fun _ z=>by cases z⟩,h2,q⟩
 | cel n=>
  have q':Fin K E ι H (M.bind (zar n) f h) P:=q
  unfold M.bind at q'
  cases z:zar n h with
  | bad=>rw [z] at q';exact qa0 q'
  | exc c h'=>unfold zar at z;split at z<;>cases z
  | ok ds h'=>
   rw [z] at q'
   obtain ⟨rfl,z2⟩:=zc3 z
   obtain ⟨a,vs,e,hn,hH,rl⟩:=hr.read r z2
   exact ⟨a,vs,ds,e,.inl ⟨SqL.of hH,fun _ z=>by cases z⟩,rl,q'⟩
 | _=>exact qa0 q
theorem zmi {K:W.Frag} {H:Hp} {a:Addr} {vs:List V} {d:D} {ds:List D} (h:(SqL K H a vs/\ ∀ ts,d≠ .tup ts)\/(SqT K H a vs/\d= .tup ds)):SqL K H a vs\/SqT K H a vs:=h.imp And.left And.left
theorem zs9 {K:W.Frag} {ι:Io} {H:Hp} {d:D} {xs:List V} (h:zat K ι H [d] xs): ∃ v,xs=[v]/\Rel K ι H d v:=by
 simp only [zat] at h
 obtain ⟨v,r,rfl,h1,rfl⟩:=h
 exact ⟨v,rfl,h1⟩
noncomputable def zqt {α:Type} (f:D->M α):List D->M α
 | [d]=>f d
 | _=>M.bad
theorem zex {α:Type} {K:W.Frag} {ι:Io} {H:Hp} {h:Hh} {f:D->M α} {ds:List D} {xs:List V} {P:α->Io->Hp->Prop} (rl:zat K ι H ds xs) (q:Fin K E ι H (zqt f ds h) P): ∃ d v,xs=[v]/\Rel K ι H d v/\Fin K E ι H (f d h) P:=by
 match ds,rl,q with
 | [d],rl,q=>
  obtain ⟨v,e,r⟩:=zs9 rl
  exact ⟨d,v,e,r,q⟩
 | [],_,q=>exact qa0 q
 | _::_::_,_,q=>exact qa0 q
noncomputable def zdn:List D->M D:=zqt fun d=>do let ds<-zkT d;pure (.int ds.length)
theorem zav:za0 X (.builtin "len") (zjL X.K E zdn):=by
 refine za0.imp zhr fun xs H Q ⟨ι,h,ds,rl,hr,q⟩=> ?_
 obtain ⟨d,v,e,r,q⟩:=zex rl q
 obtain ⟨a,vs,ds',e',hs,rl',q⟩:=zdG hr r q
 exact ⟨a,vs,by rw [e,e'],zmi hs,Fin.out hr q _ (by rw [rl'.length];simp [Rel])⟩
noncomputable def zbo:List D->M D:=zqt fun d=>do let ds<-zkT d;pure (.tup ds)
theorem zay:za0 X (.type "tuple") (zjL X.K E zbo):=by
 refine za0.imp zgY fun xs H Q ⟨ι,h,ds,rl,hr,q⟩=> ?_
 obtain ⟨d,v,e,r,q⟩:=zex rl q
 obtain ⟨a,vs,ds',e',hs,rl',q⟩:=zdG hr r q
 refine ⟨a,vs,by rw [e,e'],?_⟩
 rcases hs with ⟨hs,_⟩ | ⟨hs,hd⟩
 ·exact .inl ⟨hs,fun l hl=>zoh hr rl' q hl⟩
 ·exact .inr ⟨hs,Fin.out hr q _ (by rw [<- e', <-hd];exact r)⟩
noncomputable def zk1:List D->M D:=zqt fun d=>do let ds<-zkT d;pure (.lst ds)
theorem zeR:za0 X (.type "list") (zjL X.K E zk1):=by
 refine za0.imp zeX fun xs H Q ⟨ι,h,ds,rl,hr,q⟩=> ?_
 obtain ⟨d,v,e,r,q⟩:=zex rl q
 obtain ⟨a,vs,ds',e',hs,rl',q⟩:=zdG hr r q
 exact ⟨a,vs,by rw [e,e'],zmi hs,fun l hl=>zqq hr rl' q hl⟩
noncomputable def two2 (g:Int->Int->Int):List D->M D
 | [.int i,.int j]=>pure (.int (g i j))
 | _=>M.bad
theorem two2_inv {K:W.Frag} {ι:Io} {H:Hp} {h:Hh} {g:Int->Int->Int} {ds:List D} {xs:List V} {P:D->Io->Hp->Prop} (hr:zbg K ι H h) (rl:zat K ι H ds xs) (q:Fin K E ι H (two2 g ds h) P): ∃ i j,xs=[.int i,.int j]/\P (.int (g i j)) ι H:=by
 unfold two2 at q
 split at q
 ·simp only [zat,Rel] at rl
  obtain ⟨v,r,rfl,rfl,v',r',rfl,rfl,rfl⟩:=rl
  exact ⟨_,_,rfl,Fin.out hr q⟩
 ·exact qa0 q
noncomputable def zlF:=two2 fun i j=>if j>i then j else i
noncomputable def zoS:=two2 fun i j=>if j<i then j else i
theorem zgb (hc:X.calm=true):za0 X (.builtin "max") (zjL X.K E zlF):=by
 refine za0.imp (zkm hc) fun xs H Q ⟨ι,h,ds,rl,hr,q⟩=> ?_
 obtain ⟨i,j,e,q⟩:=two2_inv hr rl q
 exact ⟨i,j,e,q _ (by simp [Rel])⟩
theorem zjR (hc:X.calm=true):za0 X (.builtin "min") (zjL X.K E zoS):=by
 refine za0.imp (zk3 hc) fun xs H Q ⟨ι,h,ds,rl,hr,q⟩=> ?_
 obtain ⟨i,j,e,q⟩:=two2_inv hr rl q
 exact ⟨i,j,e,q _ (by simp [Rel])⟩
noncomputable def znw:List D->Option (List Bool)
 | []=>some []
 | .bl b::r=>(znw r).map (b:: ·)
 | _=>none
noncomputable def zf2:List D->Option (List Int)
 | []=>some []
 | .int i::r=>(zf2 r).map (i:: ·)
 | _=>none
theorem zgE {K:W.Frag} {ι:Io} {H:Hp}: ∀ {ds:List D} {vs:List V} {bs:List Bool},zat K ι H ds vs->znw ds=some bs->vs=bs.map V.bl
 | [],_,_,h,e=>by simp only [zat] at h;subst h;cases e;rfl
 | d::ds,_,bs,h,e=>by
  simp only [zat] at h
  obtain ⟨v,r,rfl,h1,h2⟩:=h
  cases d with
  | bl b=>
   unfold znw at e
   cases z:znw ds with
   | none=>rw [z] at e;cases e
   | some cs=>
    rw [z] at e
    cases e
    simp only [Rel] at h1
    rw [h1,zgE h2 z]
    rfl
  | _=>cases e
theorem zho {K:W.Frag} {ι:Io} {H:Hp}: ∀ {ds:List D} {vs:List V} {bs:List Int},zat K ι H ds vs->zf2 ds=some bs->vs=bs.map V.int
 | [],_,_,h,e=>by simp only [zat] at h;subst h;cases e;rfl
 | d::ds,_,bs,h,e=>by
  simp only [zat] at h
  obtain ⟨v,r,rfl,h1,h2⟩:=h
  cases d with
  | int b=>
   unfold zf2 at e
   cases z:zf2 ds with
   | none=>rw [z] at e;cases e
   | some cs=>
    rw [z] at e
    cases e
    simp only [Rel] at h1
    rw [h1,zho h2 z]
    rfl
  | _=>cases e
theorem Fin.ofOb {α β:Type} {K:W.Frag} {ι:Io} {H:Hp} {h:Hh} {o:Option α} {f:α->M β} {P:β->Io->Hp->Prop} (q:Fin K E ι H ((do let a<-L3.ofO o;f a) h) P): ∃ a,o=some a/\Fin K E ι H (f a h) P:=by
 cases o with
 | none=>exact qa0 q
 | some a=>exact ⟨a,rfl,q⟩
noncomputable def zrQ:List D->M D:=zqt fun d=>match d with
 | .lst ds=>do let bs<-ofO (znw ds);pure (.bl (bs.all id))
 | _=>M.bad
theorem zfr (hc:X.calm=true):za0 X (.builtin "all") (zjL X.K E zrQ):=by
 refine za0.imp (zlh hc) fun xs H Q ⟨ι,h,ds,rl,hr,q⟩=> ?_
 obtain ⟨d,v,e,r,q⟩:=zex rl q
 cases d with
 | lst ds=>
  obtain ⟨a,vs,e',h1,h2⟩:=zfM r
  obtain ⟨bs,eb,q⟩:=Fin.ofOb q
  have:=zgE h2 eb
  subst this
  exact ⟨a,bs,by rw [e,e'],h1,Fin.out hr q _ (by simp [Rel])⟩
 | _=>exact qa0 q
noncomputable def zb2 (d:D):M D:=do
 let ds<-zkT d
 let ns<-ofO (zf2 ds)
 if (ns.foldl step_dedup []).length<64/\ns.length<4000 then pure (.lst ((zeF ns).map D.int)) else M.bad
theorem zj6 {p1 p2 pos2:Pos} {f:Sd->M D} (hc:X.calm=true) (hg1:Gl X "sorted") (hm1:X.mg "sorted"=none) (hg2:Gl X "set") (hm2:X.mg "set"=none) (he:SE X E e f)
  (h1:starEach [.Call (.Name "set" p2) [e] [] pos2] X.env=[(false,eval (.Call (.Name "set" p2) [e] [] pos2) X.env)]:=by rfl) (h2:starEach [e] X.env=[(false,eval e X.env)]:=by rfl):
  SE X E (.Call (.Name "sorted" p1) [.Call (.Name "set" p2) [e] [] pos2] [] pos) (fun sd=>do let d<-f sd;zb2 d):=by
 refine PE.imp (ze9 (zhl hc) hg1 hm1 boot_sorted (zbs (zc2 (zkK hc) hg2 hm2 PyProof.Rows.boot_set (zbs he zcs h2) (he:=h2)) zcs h1) (he:=h1)) fun σ H Q ⟨ι,h,sd,L,hh,q⟩=>⟨ι,h,sd,L,hh,Fin.bind q fun d h1 ι1 H1 e1 s1 hr1 q1 v rv=> ?_⟩
 obtain ⟨a,vs,ds',e',hs,rl',q2⟩:=zdG hr1 rv q1
 obtain ⟨ns,en,q3⟩:=Fin.ofOb q2
 have:=zho rl' en
 subst this
 obtain ⟨hl,q4⟩:=Fin.guard q3
 refine ⟨a,ns,by rw [e'],zmi hs,hl.2,fun p hp=> ?_⟩
 have hr2:zbg X.K ι1 (upd H1 p (zkX X.prog X.w p ns)) h1:=hr1.laid hp
 exact ⟨p,ns,rfl,.inl ⟨⟨hl.1,zaS⟩,fun l hl'=>zqq hr2 (zdC.mpr rfl) (Fin.step (hr1.laidS hp) q4) hl'⟩⟩
end
noncomputable def tyD:D->M String
 | .non=>pure "NoneType"
 | .bl _=>pure "bool"
 | .int _=>pure "int"
 | .str _=>pure "str"
 | .tup _=>pure "tuple"
 | .lst _=>pure "list"
 | .dct=>pure "dict"
 | .cel n=>do let _<-zar n;pure "list"
 | _=>M.bad
noncomputable def zky:List String:=["NoneType","bool","int","str","tuple","list","dict"]
noncomputable def isB (T t:String):Bool:=t==T || (t=="bool" && T=="int")
noncomputable def zi2 (T:String) (d:D):M D:=do let t<-tyD d;pure (.bl (isB T t))
def zjO (T:String):Prop:= ∀ (K:W.Frag), ∀ t∈zky,W.kitOne K (.type t) (.type T)=some (isB T t)
noncomputable def zuq (t T:String):Option Bool:=if ((Value.type t)==(Value.type T))=true then some true else if W.kitMeta T=true then (fastBuiltinMro t).map (·.contains (Value.type T)) else none
theorem zg6 {T:String} (h:(zky.all fun t=>zuq t T==some (isB T t))=true):zjO T:=fun K t ht=>by
 have:=List.all_eq_true.mp h t ht
 have e:W.kitOne K (.type t) (.type T)=zuq t T:=rfl
 rw [e]
 exact beq_iff_eq.mp this
theorem zmj:zjO "int":=zg6 (by decide +kernel)
theorem zjj:zjO "bool":=zg6 (by decide +kernel)
theorem zhi:zjO "tuple":=zg6 (by decide +kernel)
section
variable {X:Cx} {E:XE} {α:Type}
theorem zoX {K:W.Frag} {ι:Io} {H:Hp} {h:Hh} {d:D} {v:V} {f:String->M α} {P:α->Io->Hp->Prop} (hr:zbg K ι H h) (r:Rel K ι H d v) (q:Fin K E ι H ((do let t<-tyD d;f t) h) P):
  ∃ t,t∈zky/\zi7 K H v (.type t)/\Fin K E ι H (f t h) P:=by
 cases d with
 | non=>simp only [Rel] at r;subst r;exact ⟨_,by decide,.non,q⟩
 | bl b=>simp only [Rel] at r;subst r;exact ⟨_,by decide,.bl b,q⟩
 | int b=>simp only [Rel] at r;subst r;exact ⟨_,by decide,.int b,q⟩
 | str b=>simp only [Rel] at r;subst r;exact ⟨_,by decide,.str b,q⟩
 | tup ds=>
  simp only [Rel] at r
  obtain ⟨a,vs,e,h1,h2⟩:=r
  subst e
  exact ⟨_,by decide,.tup h1.1,q⟩
 | lst ds=>
  simp only [Rel] at r
  obtain ⟨a,vs,e,h1,h2⟩:=r
  subst e
  exact ⟨_,by decide,.lst h1.1,q⟩
 | dct=>
  simp only [Rel] at r
  obtain ⟨a,e,h1,h2⟩:=r
  subst e
  exact ⟨_,by decide,.dK h1,q⟩
 | cel n=>
  have q':Fin K E ι H (M.bind (zar n) (fun _=>f "list") h) P:=by
   have e:(do let t<-tyD (.cel n);f t:M α)=(zar n>>=fun _=>f "list"):=by
    show ((zar n>>=fun _=>pure "list")>>=f)=_
    simp only [bind_assoc,pure_bind]
   rw [e] at q
   exact q
  unfold M.bind at q'
  cases z:zar n h with
  | bad=>rw [z] at q';exact qa0 q'
  | exc c h'=>unfold zar at z;split at z<;>cases z
  | ok ds h'=>
   rw [z] at q'
   obtain ⟨rfl,z2⟩:=zc3 z
   obtain ⟨a,vs,e,hn,hH,rl⟩:=hr.read r z2
   subst e
   exact ⟨_,by decide,.lst hH,q'⟩
 | _=>exact qa0 q
theorem znv:za0 X (.builtin "isinstance") (fun xs H Q=> ∃ x t T b,xs=[x,.ty T]/\zi7 X.K H x t/\W.kitOne X.K t (.type T)=some b/\Q (.bl b) H):=by
 intro pins s σ H xs us Q I r h
 obtain ⟨x,t,T,b,rfl,ty,e,q⟩:=h
 cases r with
 | cons r1 r2=>
  cases r2 with
  | cons r3 r4=>
   cases r4
   cases r3
   exact zk0 I r1 ty e fun tk=>⟨.bl b,H,I.tok tk,rfl,q⟩
theorem zsA {a:Expr} {x:Str} {T:String} {p1 p2 pos:Pos} {fa:Sd->M D} (hk:zjO T) (hg:Gl X "isinstance") (hm:X.mg "isinstance"=none) (hgT:Gl X x) (hmT:X.mg x=none) (hvT:bootBuiltins x=some (.type T)) (ha:SE X E a fa)
  (hn:x≠"__name__":=by decide) (hd:(x==("__debug__":Str))=false:=by decide)
  (h1:starEach [a,.Name x p2] X.env=(false,eval a X.env)::starEach [.Name x p2] X.env:=by rfl) (h2:starEach [.Name x p2] X.env=[(false,eval (.Name x p2) X.env)]:=by rfl)
  (hpl:(backTo pos (starEach [.Name x p2] X.env)).any (·.1)=false:=by rfl):
  SE X E (.Call (.Name "isinstance" p1) [a,.Name x p2] [] pos) (fun sd=>do let d<-fa sd;zi2 T d):=by
 refine PE.imp (ze9 znv hg hm PyProof.Rows.boot_isinstance (zbs ha (zbs (zpz (v:= .ty T) hgT hmT hvT rfl hn hd) zcs h2) h1) (he:=h1) (hpl:=hpl)) fun σ H Q ⟨ι,h,sd,L,hh,q⟩=>⟨ι,h,sd,L,hh,Fin.bind q fun d h1 ι1 H1 e1 s1 hr1 q1 v rv=> ?_⟩
 obtain ⟨t,ht,ty,q2⟩:=zoX hr1 rv q1
 exact ⟨v,.type t,T,isB T t,rfl,ty,hk X.K t ht,Fin.out hr1 q2 _ (by simp [Rel])⟩
noncomputable def zrE:D->D->M D
 | .bl a,.bl b=>pure (.bl (a != b))
 | _,_=>M.bad
noncomputable def zfi (xs:List D) (lo hi:Option Int):List D:=(xs.drop (HT.sIx xs.length 0 lo)).take (HT.sIx xs.length xs.length hi - HT.sIx xs.length 0 lo)
noncomputable def dSl (d:D) (lo hi:Option Int):M D:=match d with
 | .tup ds=>pure (.tup (zfi ds lo hi))
 | .lst ds=>pure (.lst (zfi ds lo hi))
 | _=>M.bad
noncomputable def zuP (K:W.Frag) (E:XE) (f:Sd->M (Option Int)):TO:=fun σ H Q=> ∃ ι h sd,zc1 K ι H sd σ/\zbg K ι H h/\Fin K E ι H (f sd h) fun o ι' H'=>Q o H'
noncomputable abbrev SO (X:Cx) (E:XE) (e:Option Expr) (f:Sd->M (Option Int)):Prop:=PO X e (zuP X.K E f)
theorem PO.imp {e:Option Expr} {t t':TO} (h:PO X e t) (m: ∀ σ H Q,t' σ H Q->t σ H Q):PO X e t':=fun pins s σ H Q I q=>h pins s σ H Q I (m _ _ _ q)
noncomputable def zfn:Sd->M (Option Int):=fun _=>pure none
noncomputable def zo6:D->M (Option Int)
 | .int i=>pure (some i)
 | _=>M.bad
noncomputable def zfY (f:Sd->M D):Sd->M (Option Int):=fun sd=>do let d<-f sd;zo6 d
theorem zdd:SO X E none zfn:=PO.imp zoT fun σ H Q ⟨ι,h,sd,L,hh,q⟩=>Fin.out hh q
theorem zdh {e:Expr} {f:Sd->M D} (h:SE X E e f):SO X E (some e) (zfY f):=by
 refine PO.imp (zpY h) fun σ H Q ⟨ι,h,sd,L,hh,q⟩=>⟨ι,h,sd,L,hh,Fin.bind q fun d h1 ι1 H1 e1 s1 hr1 q1 v rv=> ?_⟩
 cases d with
 | int i=>simp only [Rel] at rv;exact ⟨i,rv,Fin.out hr1 q1⟩
 | _=>exact qa0 q1
noncomputable def cSl (f:Sd->M D) (lo hi:Sd->M (Option Int)):Sd->M D:=fun sd=>do let d<-f sd;let l<-lo sd;let u<-hi sd;dSl d l u
theorem zci {e:Expr} {lo hi:Option Expr} {p2 pos:Pos} {f:Sd->M D} {fl fh:Sd->M (Option Int)} (he:SE X E e f) (hl:SO X E lo fl) (hu:SO X E hi fh):SE X E (.Subscript e (.Slice lo hi none p2) pos) (cSl f fl fh):=by
 refine PE.imp (znO (zpA.or (zsh.or zoO)) he hl hu) fun σ H Q ⟨ι,h,sd,L,hh,q⟩=>⟨ι,h,sd,L,hh,Fin.bind q fun d h1 ι1 H1 e1 s1 hr1 q1 v rv=> ?_⟩
 refine ⟨ι1,h1,sd,L.step s1,hr1,Fin.bind q1 fun l h2 ι2 H2 e2 s2 hr2 q2=> ?_⟩
 refine ⟨ι2,h2,sd,(L.step s1).step s2,hr2,Fin.bind q2 fun u h3 ι3 H3 e3 s3 hr3 q3=> ?_⟩
 have rv3:=(rv.step s2).step s3
 cases d with
 | tup ds=>
  obtain ⟨a,vs,e,k1,k2⟩:=zds rv3
  by_cases hw:HT.sIx vs.length 0 l=0/\HT.sIx vs.length vs.length u=vs.length
  ·refine .inl ⟨a,vs,e,k1,hw,?_⟩
   have ec:zfi ds l u=ds:=by
    unfold zfi
    rw [k2.length,hw.1,hw.2, <-k2.length]
    simp
   refine Fin.out hr3 q3 _ ?_
   rw [ec, <-e]
   exact rv3
  ·refine .inr (.inl ⟨a,vs,e,k1,hw,fun p hp=>zoh hr3 ?_ q3 hp⟩)
   unfold zfi zn8
   rw [k2.length]
   exact zat.take _ (zat.drop _ k2)
 | lst ds=>
  obtain ⟨a,vs,e,k1,k2⟩:=zfM rv3
  refine .inr (.inr ⟨a,vs,e,k1,fun p hp=>zqq hr3 ?_ q3 hp⟩)
  unfold zfi zn8
  rw [k2.length]
  exact zat.take _ (zat.drop _ k2)
 | _=>exact qa0 q3
noncomputable def zs4:D->M D
 | .tup ds=>pure (.tup ds.reverse)
 | _=>M.bad
theorem zqz {e:Expr} {p2 pos p3 p4:Pos} {j:Nat} {f:Sd->M D} (he:SE X E e f):SE X E (.Subscript e (.Slice none none (some (.UnaryOp .USub (.Constant (.int 1) j p3) p4)) p2) pos) (fun sd=>do let d<-f sd;zs4 d):=by
 refine PE.imp (zsc he (PE.imp (zsd zn3 znY) fun σ H Q q=>⟨1,rfl,q⟩)) fun σ H Q ⟨ι,h,sd,L,hh,q⟩=>⟨ι,h,sd,L,hh,Fin.bind q fun d h1 ι1 H1 e1 s1 hr1 q1 v rv=> ?_⟩
 cases d with
 | tup ds=>
  obtain ⟨a,vs,e,k1,k2⟩:=zds rv
  exact ⟨a,vs,e,k1,fun p hp=>zoh hr1 k2.reverse q1 hp⟩
 | _=>exact qa0 q1
noncomputable def zrJ (x y:D):M D:=match x,y with
 | .int i,.int j=>if (zbi i || zbi j)=true then pure (.int (i*j)) else M.bad
 | .tup xs,.int k=>if xs≠[]/\2<=k/\k<1000/\xs.length*k.toNat<=sizeLine then pure (.tup (List.replicate k.toNat xs).flatten) else M.bad
 | _,_=>M.bad
theorem zat.rep {K:W.Frag} {ι:Io} {H:Hp} {ds:List D} {vs:List V} (h:zat K ι H ds vs): ∀ n,zat K ι H (List.replicate n ds).flatten (List.replicate n vs).flatten
 | 0=>zat.nil
 | n+1=>by
  rw [List.replicate_succ,List.replicate_succ,List.flatten_cons,List.flatten_cons]
  exact zat.append h (zat.rep h n)
theorem zpq:OpR X (binaryOp .Mult) (zee X.K E zrJ):=by
 refine OpR.imp (zsu.or zpr) fun x y H Q ⟨ι,h,d1,d2,r1,r2,hr,q⟩=> ?_
 unfold zrJ at q
 split at q
 ·simp only [Rel] at r1 r2
  obtain ⟨c,q⟩:=Fin.guard q
  refine .inl ⟨_,_,r1,r2,?_,Fin.out hr q _ (by simp [Rel])⟩
  rcases (Bool.or_eq_true _ _).mp c with z | z
  ·exact .inl (zc7 z)
  ·exact .inr (zc7 z)
 ·simp only [Rel] at r2
  obtain ⟨a,vs,e,k1,k2⟩:=zds r1
  obtain ⟨⟨c1,c2,c3,c4⟩,q⟩:=Fin.guard q
  refine .inr ⟨a,_,vs,e,r2,k1,fun z=>c1 ?_,c2,c3,by rw [<- k2.length];exact c4,fun p hp=>zoh hr (k2.rep _) q hp⟩
  subst z
  exact List.eq_nil_of_length_eq_zero k2.length
 ·exact qa0 q
theorem zjJ {pins:List (Addr×Obj)} {σ:L2.St} {H:Hp} {s:Shared} (I:Inv X pins σ H s):sysModules<s.heap.objs.size:=
 Nat.lt_trans (by decide) (show mainGlobals<s.heap.objs.size from (I.mod.glob.keeps I.bk).lt)
theorem znc {pos:Pos}:PE X (.Dict [] [] pos) (fun _ H Q=> ∀ p,H p=none->Q (.ref p) (upd H p (.dK []))):=fun pins s σ H Q I h=>
 wpAny_Dict_empty ⟨.ref s.heap.objs.size,_,I.laid (a:=s.heap.objs.size) (o:= .dK []) (t':=s.toks) (fun _ _ q=>qag _ q) (qaV _)
   ⟨Nat.zero_le _,beq_eq_false_iff_ne.mpr (Ne.symm (qaR (zjJ I))),[],.nil,Heap.DictOf.new s.heap⟩,rfl,h _ (I.hok.fresh (qaV _))⟩
theorem zmI {pos:Pos}:SE X E (.Dict [] [] pos) (fun _=>pure .dct):=by
 refine PE.imp znc fun σ H Q ⟨ι,h,sd,L,hh,q⟩ p hp=> ?_
 exact q ι _ (hh.laidS hp) (hh.laid hp) _ (by
   simp only [Rel]
   exact ⟨p,rfl,zaS,hh.nin hp⟩)
mutual
noncomputable def pdH (h:Hh):D->Option PyData
 | .non=>some .none
 | .bl b=>some (.bool b)
 | .int i=>some (.int i)
 | .str x=>some (.str x)
 | .tup xs=>(zmG h xs).map .tuple
 | .lst xs=>(zmG h xs).map .list
 | .cel n=>match h[n]? with
  | some (.lst ds)=>(pdL ds).map .list
  | _=>none
 | _=>none
noncomputable def zmG (h:Hh):List D->Option (List PyData)
 | []=>some []
 | x::xs=>match pdH h x,zmG h xs with
  | some a,some r=>some (a::r)
  | _,_=>none
end
mutual
theorem zrC {pins:List (Addr×Obj)} {σ:L2.St} {H:Hp} {s:Shared} {ι:Io} {h:Hh} (I:Inv X pins σ H s) (hr:zbg X.K ι H h): ∀ {d:D} {v:V} {u:Value} {p:PyData},Rel X.K ι H d v->zb5 v u->pdH h d=some p-> ∃ as,Reads s.heap u p as
 | .non,v,u,p,r,ru,e=>by simp only [Rel] at r;subst r;cases ru;simp only [pdH] at e;cases e;exact ⟨_,.none⟩
 | .bl b,v,u,p,r,ru,e=>by simp only [Rel] at r;subst r;cases ru;simp only [pdH] at e;cases e;exact ⟨_,.bool _⟩
 | .int i,v,u,p,r,ru,e=>by simp only [Rel] at r;subst r;obtain ⟨t,rfl⟩:=ru;simp only [pdH] at e;cases e;exact ⟨_,.int _ _⟩
 | .str i,v,u,p,r,ru,e=>by simp only [Rel] at r;subst r;obtain ⟨t,rfl⟩:=ru;simp only [pdH] at e;cases e;exact ⟨_,.str _ _⟩
 | .tup ds,v,u,p,r,ru,e=>by
  obtain ⟨a,vs,rfl,h1,h2⟩:=zds r
  cases ru
  obtain ⟨its,rv,pl,_⟩:=I.tuple h1
  obtain ⟨o,ho,hc,n,hd⟩:=pl
  simp only [pdH] at e
  cases z:zmG h ds with
  | none=>rw [z] at e;cases e
  | some ps=>
   rw [z] at e;cases e
   obtain ⟨as,q⟩:=zii I hr h2 rv z
   exact ⟨_,.tuple ho hc hd (by simpa using q)⟩
 | .lst ds,v,u,p,r,ru,e=>by
  obtain ⟨a,vs,rfl,h1,h2⟩:=zfM r
  cases ru
  obtain ⟨its,rv,pl,_⟩:=I.list h1
  obtain ⟨o,ho,hc,n,hd⟩:=pl.isList
  simp only [pdH] at e
  cases z:zmG h ds with
  | none=>rw [z] at e;cases e
  | some ps=>
   rw [z] at e;cases e
   obtain ⟨as,q⟩:=zii I hr h2 rv z
   exact ⟨_,.list ho hc hd (by simpa using q)⟩
 | .cel m,v,u,p,r,ru,e=>by
  simp only [pdH] at e
  cases z0:h[m]? with
  | none=>rw [z0] at e;cases e
  | some c=>
   rw [z0] at e
   cases c with
   | dead=>cases e
   | dic _=>cases e
   | lst ds=>
    obtain ⟨a,vs,rfl,hn,hH,rl⟩:=hr.read r z0
    cases ru
    obtain ⟨its,rv,pl,_⟩:=I.list (SqL.of hH)
    obtain ⟨o,ho,hc,n,hd⟩:=pl.isList
    cases z:pdL ds with
    | none=>simp only [z] at e;cases e
    | some ps=>
     simp only [z] at e;cases e
     obtain ⟨as,q⟩:=zh6 I rl rv z
     exact ⟨_,.list ho hc hd (by simpa using q)⟩
 | .scr ds,_,_,_,_,_,e=>by simp only [pdH] at e;cases e
 | .set xs,_,_,_,_,_,e=>by simp only [pdH] at e;cases e
 | .dct,_,_,_,_,_,e=>by simp only [pdH] at e;cases e
 | .fn _,_,_,_,_,_,e=>by simp only [pdH] at e;cases e
 | .exn _,_,_,_,_,_,e=>by simp only [pdH] at e;cases e
theorem zii {pins:List (Addr×Obj)} {σ:L2.St} {H:Hp} {s:Shared} {ι:Io} {h:Hh} (I:Inv X pins σ H s) (hr:zbg X.K ι H h): ∀ {ds:List D} {vs:List V} {us:List Value} {ps:List PyData},zat X.K ι H ds vs->za7 vs us->zmG h ds=some ps-> ∃ as,ReadsAll s.heap us ps as
 | [],vs,us,ps,r,ru,e=>by simp only [zat] at r;subst r;cases ru;simp only [zmG] at e;cases e;exact ⟨_,.nil⟩
 | d::ds,vs,us,ps,r,ru,e=>by
  simp only [zat] at r
  obtain ⟨v,vr,rfl,r1,r2⟩:=r
  cases ru with
  | cons ru1 ru2=>
   simp only [zmG] at e
   cases z:pdH h d with
   | none=>rw [z] at e;cases e
   | some a=>
    cases z2:zmG h ds with
    | none=>rw [z,z2] at e;cases e
    | some b=>
     rw [z,z2] at e
     cases e
     obtain ⟨as,q1⟩:=zrC I hr r1 ru1 z
     obtain ⟨bs,q2⟩:=zii I hr r2 ru2 z2
     exact ⟨_,.cons q1 q2⟩
end
end
noncomputable abbrev FE:=Sd->M D
noncomputable abbrev FT:=Sd->M Bool
noncomputable abbrev FA:=Sd->M (List D)
noncomputable abbrev FS:=Sd->M Out
noncomputable def cOp (F:D->D->M D) (a b:FE):FE:=fun sd=>do let x<-a sd;let y<-b sd;F x y
noncomputable def cUn (F:D->M D) (a:FE):FE:=fun sd=>do let x<-a sd;F x
noncomputable def zaz (F:List D->M D) (a:FA):FE:=fun sd=>do let ds<-a sd;F ds
noncomputable def zc4 (F:D->D->M D) (a b:FE):FT:=fun sd=>do let z<-(do let x<-a sd;let y<-b sd;F x y);zdp z
noncomputable def zjs (a:FE):FT:=fun sd=>do let x<-a sd;zdp x
noncomputable def zkd (t:FT):FT:=fun sd=>do let c<-t sd;pure (!c)
noncomputable def zqr (t u:FT):FT:=fun sd=>do let c<-t sd;if c=true then u sd else pure false
noncomputable def tOr (t u:FT):FT:=fun sd=>do let c<-t sd;if c=true then pure true else u sd
noncomputable def znk (a b:FE):FE:=fun sd=>do let c<-(do let x<-a sd;zdp x);if c=true then b sd else pure (.bl false)
noncomputable def cOr (a b:FE):FE:=fun sd=>do let c<-(do let x<-a sd;zdp x);if c=true then pure (.bl true) else b sd
noncomputable def zqs (a:FE):FE:=fun sd=>do let c<-(do let x<-a sd;zdp x);pure (.bl (!c))
noncomputable def cIf (t:FT) (a b:FE):FE:=fun sd=>do let c<-t sd;if c=true then a sd else b sd
noncomputable def cK (d:D):FE:=fun _=>pure d
noncomputable def zak:FA:=fun _=>pure []
noncomputable def zac (a:FE) (r:FA):FA:=fun sd=>do let x<-a sd;let r<-r sd;pure (x::r)
noncomputable def zcT (fs:FA):FE:=fun sd=>do let ds<-fs sd;fits ds.length;pure (.tup ds)
noncomputable def zfb (fs:FA):FE:=fun sd=>do let ds<-fs sd;fits ds.length;pure (.lst ds)
noncomputable def zfA (fs:FA):FE:=fun sd=>do let ds<-fs sd;fits ds.length;zd5 ds
noncomputable def zfZ:FS:=fun sd=>pure (.nx sd)
noncomputable def zan (g g':FS):FS:=fun sd=>do let o<-g sd;andThen o g'
noncomputable def zbf (i:Nat) (f:FE):FS:=fun sd=>do let d<-f sd;pure (.nx (sd.set i (some d)))
noncomputable def zbT (f:FE):FS:=fun sd=>do let d<-f sd;pure (.rt d)
noncomputable def sIf (t:FT) (g g':FS):FS:=fun sd=>do let c<-t sd;if c=true then g sd else g' sd
noncomputable def zkf (fi:FA) (g:D->Sd->M Sd) (gb:FS):FS:=fun sd=>do let ds<-fi sd;zbc (fun x sd=>do let sd1<-g x sd;gb sd1) ds sd
noncomputable def zkQ (f:FE) (g:D->Sd->M Sd):FS:=fun sd=>do let d<-f sd;let sd'<-g d sd;pure (.nx sd')
noncomputable def zdN (f:FE):FS:=fun sd=>do let _<-f sd;pure (.nx sd)
noncomputable def iSq (f:FE):FA:=fun sd=>do let d<-f sd;zfU d
noncomputable def zfh (fs:FA):FA:=fun sd=>do let ds<-fs sd;zlj ds
noncomputable def zoU (fo fi:FE):D->Sd->M Sd:=fun d sd=>do let x<-fo sd;let y<-fi sd;zlb x y d;pure sd
section
variable {X:Cx} {E:XE} {a b e c:Expr} {es:List Expr} {pos p p1 p2:Pos} {fa fb f:FE} {fs:FA} {x:Str}
theorem zab (i:Nat) (hN:X.N[i]? = some x:=by rfl) (hv:Vis X.env.scope x:=by first | exact Or.inl rfl | exact Or.inr (Or.inl rfl) | exact Or.inr (Or.inr rfl)) (hd:(x==("__debug__":Str))=false:=by decide) (hcd:(x==("__classdict__":Str))=false:=by decide):SE X E (.Name x pos) (zaf i):=zq7 i hN hv hd hcd
theorem zai {i:Int} {j:Nat}:SE X E (.Constant (.int i) j pos) (cK (.int i)):=zrV
theorem zhZ {i:Bool} {j:Nat}:SE X E (.Constant (.bool i) j pos) (cK (.bl i)):=zue
theorem zqp {j:Nat}:SE X E (.Constant .none j pos) (cK .non):=zrh
theorem zek {i:Str} {j:Nat}:SE X E (.Constant (.str i) j pos) (cK (.str i)):=zre
theorem zcz {op:Operator} {F:D->D->M D} (ho:OpR X (binaryOp op) (zee X.K E F)) (ha:SE X E a fa) (hb:SE X E b fb):SE X E (.BinOp a op b pos) (cOp F fa fb):=ztt ho ha hb
theorem zfo {op:CmpOp} {F:D->D->M D} (ho:OpR X (compareOp op) (zee X.K E F)) (ha:SE X E a fa) (hb:SE X E b fb) (hm:behindInMarks op b=false:=by rfl):SE X E (.Compare a [op] [b] pos) (cOp F fa fb):=zs1 ho ha hb hm
theorem zaO {op:CmpOp} {F:D->D->M D} (ho:OpR X (compareOp op) (zee X.K E F)) (ha:SE X E a fa) (hb:SE X E b fb) (hm:behindInMarks op b=false:=by rfl):ST X E (.Compare a [op] [b] pos) (zc4 F fa fb):=zsy ho ha hb hm
theorem za1 (ha:SE X E a fa) (hb:SE X E b fb) (hs:zgI b:=by intro _ _;rfl):SE X E (.Subscript a b pos) (cOp dIx fa fb):=ztK zuS ha hb hs
theorem zj4 (ha:SE X E a fa):SE X E (.UnaryOp .USub a pos) (cUn zmr fa):=zro ha
theorem zmS (ha:SE X E a fa):SE X E (.UnaryOp .Not a pos) (zqs fa):=zq5 ha
theorem zf0 {op:BoolOp} (h:SE X E a fa):SE X E (.BoolOp op [a] pos) fa:=zr9 h
theorem zij {rest:List Expr} (ha:SE X E a fa) (hb:SE X E (.BoolOp .And (b::rest) pos) fb):SE X E (.BoolOp .And (a::b::rest) pos) (znk fa fb):=zr1 ha hb
theorem ztQ {rest:List Expr} (ha:SE X E a fa) (hb:SE X E (.BoolOp .Or (b::rest) pos) fb):SE X E (.BoolOp .Or (a::b::rest) pos) (cOr fa fb):=zt5 ha hb
theorem zdj (h:SE X E e f) (he: ∀ whole,isTrue e X.env whole=(do let v<-whole;standAt e.pos;holding [v] (truthy v)):=by intro _;rfl):ST X E e (zjs f):=zrL h he
theorem ze0 {t:FT} (ha:ST X E a t):ST X E (.UnaryOp .Not a pos) (zkd t):=zrY ha
theorem zl4 {t:FT} (ha:ST X E a t):PW X (.BoolOp .And [a] pos) (zg7 X.K E t):=zp0 ha
theorem zhe {t:FT} (ha:ST X E a t):PW X (.BoolOp .Or [a] pos) (zg7 X.K E t):=zsp ha
theorem zoz {rest:List Expr} {t u:FT} (ha:ST X E a t) (hb:PW X (.BoolOp .And (b::rest) pos) (zg7 X.K E u)):PW X (.BoolOp .And (a::b::rest) pos) (zg7 X.K E (zqr t u)):=zq4 ha hb
theorem zik {rest:List Expr} {t u:FT} (ha:ST X E a t) (hb:PW X (.BoolOp .Or (b::rest) pos) (zg7 X.K E u)):PW X (.BoolOp .Or (a::b::rest) pos) (zg7 X.K E (tOr t u)):=ztL ha hb
theorem zd1 {op:BoolOp} {vs:List Expr} {t:FT} (h:PW X (.BoolOp op vs pos) (zg7 X.K E t)):ST X E (.BoolOp op vs pos) t:=zp8 h
theorem zlt {env:Env} (h: ∀ v p,e≠ .Starred v p):starEach (e::es) env=(false,eval e env)::starEach es env:=by
 cases e<;>first | rfl | exact absurd rfl (h _ _)
theorem zad:SA X E [] zak:=zsP
theorem zaa (ha:SE X E e fa) (hr:SA X E es fs) (hs:starEach (e::es) X.env=(false,eval e X.env)::starEach es X.env:=by exact zlt (fun _ _ z=>nomatch z)):SA X E (e::es) (zac fa fs):=zpk ha hr hs
theorem zbb {k} (h:SA X E es fs):SE X E (.Tuple es k pos) (zcT fs):=zsB h
theorem zct (h:SA X E es fs):SE X E (.List es pos) (zfb fs):=zsL h
theorem zef (h:SA X E es fs):SE X E (.List es pos) (zfA fs):=zpy h
theorem zpR:SE X E (.Dict [] [] pos) (cK .dct):=zmI
theorem ztq {p3 p4:Pos} {j:Nat} (he:SE X E e f):SE X E (.Subscript e (.Slice none none (some (.UnaryOp .USub (.Constant (.int 1) j p3) p4)) p2) pos) (cUn zs4 f):=zqz he
theorem zaG {id:String} {F:List D->M D} (hc:za0 X (.builtin id) (zjL X.K E F)) (hv:bootBuiltins x=some (.builtin id)) (hm:X.mg x=none) (ha:SA X E (e::es) fs) (hg:Gl X x:=by rfl) (hn:x≠"__name__":=by decide) (hdb:(x==("__debug__":Str))=false:=by decide)
  (he:starEach (e::es) X.env=(false,eval e X.env)::starEach es X.env:=by rfl) (hpl:(backTo pos (starEach es X.env)).any (·.1)=false:=by rfl):SE X E (.Call (.Name x p) (e::es) [] pos) (zaz F fs):=znN hc hg hm hv ha hn hdb he hpl
theorem zaI {T:String} {F:List D->M D} (hc:za0 X (.type T) (zjL X.K E F)) (hv:bootBuiltins x=some (.type T)) (hm:X.mg x=none) (ha:SA X E (e::es) fs) (hg:Gl X x:=by rfl) (hn:x≠"__name__":=by decide) (hdb:(x==("__debug__":Str))=false:=by decide)
  (he:starEach (e::es) X.env=(false,eval e X.env)::starEach es X.env:=by rfl) (hpl:(backTo pos (starEach es X.env)).any (·.1)=false:=by rfl):SE X E (.Call (.Name x p) (e::es) [] pos) (zaz F fs):=zls hc hg hm hv ha hn hdb he hpl
theorem zjK {T:String} (hk:zjO T) (hvT:bootBuiltins x=some (.type T)) (hm:X.mg "isinstance"=none) (hmT:X.mg x=none) (ha:SE X E a fa) (hg:Gl X "isinstance":=by rfl) (hgT:Gl X x:=by rfl)
  (hn:x≠"__name__":=by decide) (hd:(x==("__debug__":Str))=false:=by decide)
  (h1:starEach [a,.Name x p2] X.env=(false,eval a X.env)::starEach [.Name x p2] X.env:=by rfl) (h2:starEach [.Name x p2] X.env=[(false,eval (.Name x p2) X.env)]:=by rfl)
  (hpl:(backTo pos (starEach [.Name x p2] X.env)).any (·.1)=false:=by rfl):SE X E (.Call (.Name "isinstance" p1) [a,.Name x p2] [] pos) (cUn (zi2 T) fa):=zsA hk hg hm hgT hmT hvT ha hn hd h1 h2 hpl
theorem zfF {pos2:Pos} (hc:X.calm=true) (hm1:X.mg "sorted"=none) (hm2:X.mg "set"=none) (he:SE X E e f) (hg1:Gl X "sorted":=by rfl) (hg2:Gl X "set":=by rfl)
  (h1:starEach [.Call (.Name "set" p2) [e] [] pos2] X.env=[(false,eval (.Call (.Name "set" p2) [e] [] pos2) X.env)]:=by rfl) (h2:starEach [e] X.env=[(false,eval e X.env)]:=by rfl):
  SE X E (.Call (.Name "sorted" p1) [.Call (.Name "set" p2) [e] [] pos2] [] pos) (cUn zb2 f):=zj6 hc hg1 hm1 hg2 hm2 he h1 h2
theorem zaB {k:Nat} {g:Addr} {fd:FuncData} {ps:List Str} {n:Nat} {F:List D->M D} (G:zbq X.prog X.w X.K X.mg X.base CX0 k g fd ps (zbV X.K n F)) (hr:zdV k X.A) (hm:X.mg x=some (.ref g)) (hk:W.keepIn X.K (.ref g)=true) (hb:zaJ X.K fd ps [])
  (ha:SA X E0x (e::es) fs) (hg:Gl X x:=by rfl) (hdb:(x==("__debug__":Str))=false:=by decide) (he:starEach (e::es) X.env=(false,eval e X.env)::starEach es X.env:=by rfl) (hpl:(backTo pos (starEach es X.env)).any (·.1)=false:=by rfl):
  SE X E0x (.Call (.Name x p) (e::es) [] pos) (zaz (zap n F) fs):=zoG G hr hg hm hk hb ha hdb he hpl
theorem zbJ:SSs X E [] zfZ:=zsU
theorem zaj {st:Stmt} {g:FS} (h1:SS X E st g):SSs X E [st] g:=zrX h1
theorem zag {st:Stmt} {rest:List Stmt} {g g':FS} (h1:SS X E st g) (h2:SSs X E rest g'):SSs X E (st::rest) (zan g g'):=zpx h1 h2
theorem zaN (he:SE X E e f):SS X E (.Return (some e) pos) (zbT f):=ztb he
theorem zgi {ys ns:List Stmt} {t:FT} {g g':FS} (hc:ST X E c t) (ha:SSs X E ys g) (hb:SSs X E ns g'):SS X E (.If c ys ns pos) (sIf t g g'):=zu6 hc ha hb
theorem zcx (he:SE X E e f) (hs:swapsWith e none pos.line X.env=pure false:=by rfl):SS X E (.Expr e pos) (zdN f):=zsl he hs
theorem zaH (i:Nat) (hN:X.N.Nodup) (he:SE X E e f) (hi:X.N[i]? = some x:=by rfl) (hx:Loc X.env.scope x:=by first | exact Or.inl rfl | exact Or.inr rfl) (hf:X.fn x=true\/X.env.scope.names.lookup x=some .local:=by first | exact Or.inl rfl | exact Or.inr rfl)
  (hs:swapsWith e (some (.Name x p)) pos.line X.env=pure false:=by rfl):SS X E (.Assign [.Name x p] e pos) (zbf i f):=ztW i hN hi hx hf he hs
theorem zgH {tg:Expr} {g:D->Sd->M Sd} (he:SE X E e f) (hg:SG X E tg g) (hs:swapsWithSole [tg] e pos.line X.env=pure false:=by rfl) (hw:swappedStores [tg] e X.env=pure none:=by rfl)
  (h1:(assignEach [tg] X.env).map (·.2)=[assign tg X.env]:=by rfl):SS X E (.Assign [tg] e pos) (zkQ f g):=zui he hg hs hw h1
theorem zah (i:Nat) (hN:X.N.Nodup) (hi:X.N[i]? = some x:=by rfl) (hx:Loc X.env.scope x:=by first | exact Or.inl rfl | exact Or.inr rfl) (hf:X.fn x=true\/X.env.scope.names.lookup x=some .local:=by first | exact Or.inl rfl | exact Or.inr rfl):SG X E (.Name x pos) (zaw i):=zpE i hN hi hx hf
theorem zbL:SGs X E [] zbP:=zqa
theorem zaD {g:D->Sd->M Sd} {gs:List D->Sd->M Sd} (h1:SG X E e g) (h2:SGs X E es gs) (hs:(assignEach (e::es) X.env).map (·.2)=assign e X.env::(assignEach es X.env).map (·.2):=by rfl):SGs X E (e::es) (zau g gs):=zmx h1 h2 hs
theorem zcE {k n:Nat} {gs:List D->Sd->M Sd} (hc:X.calm=true) (h:SGs X E es gs) (hn:(assignEach es X.env).length=n:=by rfl) (hst:(assignEach es X.env).findIdx? (·.1)=none:=by rfl):SG X E (.Tuple es k pos) (zbO n gs):=zqG hc h hn hst
theorem zrR (ho:SE X E a fa) (hi:SE X E b fb) (ha: ∀ v,assign (.Subscript a b pos) X.env v=(do
      let ov<-holding [v] (eval a X.env)
      let iv<-holding [v,ov] (eval b X.env)
      standAt pos
      holding [v,ov,iv] (setItem ov iv v)
      release [v,ov,iv] []):=by intro _;rfl):SG X E (.Subscript a b pos) (zoU fa fb):=zsn fun hs=>zrd ho hi hs ha
theorem zbz {tg:Expr} (he:SE X E e f):SI X E tg e (iSq f):=zso he
theorem zew {tg:Expr} (hm:X.mg "range"=none) (ha:SA X E [a] fs) (hg:Gl X "range":=by rfl) (hs:starEach [a] X.env=[(false,eval a X.env)]:=by rfl):SI X E tg (.Call (.Name "range" p) [a] [] pos) (zfh fs):=zpf hg hm ha hs
theorem zf4 {tg iter:Expr} {body:List Stmt} {fi:FA} {g:D->Sd->M Sd} {gb:FS} (hc:X.calm=true) (hp:PassesOwn (model X.prog X.w) X.A X.env X.xe) (hi:SI X E tg iter fi) (hg:SG X E tg g) (hb:SSs X E body gb)
  (hs: ∀ x,foldedSetIterable iter X.env x=pure x:=by intro _;rfl):SS X E (.For tg iter body [] pos) (zkf fi g gb):=zt7 hc hp hi hg hb hs
theorem zbx:SCs X E [] (fun _=>pure true):=zrP
theorem zbN {t:FT} (h:ST X E c t):SCs X E [c] t:=zrG h
theorem zaQ {scope:Scope} {N:List Str} {src:List (Option Nat)} {tg iter elt:Expr} {ifs:List Expr} {fi:FA} {g:D->Sd->M Sd} {tc:FT} {te:FE} (hc:X.calm=true) (B:BOk X scope N src) (hk:zaA g src) (hi:SI X E tg iter fi)
  (hg: ∀ s H fp,SG (cxB X scope N s H fp) E tg g) (ht: ∀ s H fp,SCs (cxB X scope N s H fp) E ifs tc) (he: ∀ s H fp,SE (cxB X scope N s H fp) E elt te)
  (hs: ∀ x,foldedSetIterable iter X.env x=pure x:=by intro _;rfl):SE X E (.ListComp elt [⟨tg,iter,ifs,0⟩] scope pos) (zao fi g tc te src):=zo7 B hk hi hg ht he hs
theorem zdE {scope:Scope} {N:List Str} {src:List (Option Nat)} {tg iter elt:Expr} {ifs:List Expr} {fi:FA} {g:D->Sd->M Sd} {tc:FT} {te:FE} (i:Nat) {y:Str} {py spos:Pos} (hc:X.calm=true) (hN:X.N.Nodup) (B:BOk X scope N src) (hk:zaA g src) (hi:SI X E tg iter fi)
  (hg: ∀ s H fp,SG (cxB X scope N s H fp) E tg g) (ht: ∀ s H fp,SCs (cxB X scope N s H fp) E ifs tc) (he: ∀ s H fp,SE (cxB X scope N s H fp) E elt te)
  (hy:X.N[i]? = some y:=by rfl) (hx:Loc X.env.scope y:=by first | exact Or.inl rfl | exact Or.inr rfl) (hf:X.fn y=true\/X.env.scope.names.lookup y=some .local:=by first | exact Or.inl rfl | exact Or.inr rfl) (hsw:swapsWith (.ListComp elt [⟨tg,iter,ifs,0⟩] scope pos) (some (.Name y py)) spos.line X.env=pure true:=by rfl)
  (hs: ∀ x,foldedSetIterable iter X.env x=pure x:=by intro _;rfl):SS X E (.Assign [.Name y py] (.ListComp elt [⟨tg,iter,ifs,0⟩] scope pos) spos) (zbf i (zao fi g tc te src)):=zml i B hk hi hg ht he hN hy hx hf hsw hs
end
theorem zbg.empty {K:W.Frag} {H:Hp}:zbg K ⟨[],[]⟩ H []:=⟨rfl,fun m n a h=>by simp at h,fun n a c h=>by simp at h,fun n h=>by simp at h,fun a h=>by cases h⟩
theorem ztS {K:W.Frag} {F:List D->M D} {H:Hp} {a:Addr} {ns:List Int} (hS:SqL K H a (ns.map V.int)) (hm: ∃ h',F [.scr (ns.map D.int)] []= .ok (.bl true) h'):zbV K 1 F [.ref a] H (fun v _=>v= .bl true) fun _ _ _=>False:=by
 obtain ⟨h',e⟩:=hm
 refine ⟨rfl,⟨[],[]⟩,[],[.scr (ns.map D.int)],zat.cons ?_ zat.nil,zbg.empty,?_⟩
 ·simp only [Rel]
  refine ⟨a,ns.map V.int,rfl,?_,zdC.mpr rfl⟩
  rcases hS with h | h
  ·exact .inl ⟨h,fun z=>by rcases z with z | z<;>cases z⟩
  ·exact .inr (.inr h)
 ·rw [e]
  intro ι1 H1 s hr v rv
  simpa [Rel] using rv
section
variable {sd:Sd} {a b:FE} {fs:FA} {t u:FT} {g g':FS} {F:D->D->M D}
@[simp] theorem ze7:cOp F a b sd=(do let x<-a sd;let y<-b sd;F x y):=rfl
@[simp] theorem zm7 {F:D->M D}:cUn F a sd=(do let x<-a sd;F x):=rfl
@[simp] theorem zcm {F:List D->M D}:zaz F fs sd=(do let ds<-fs sd;F ds):=rfl
@[simp] theorem zgl:zc4 F a b sd=(do let z<-(do let x<-a sd;let y<-b sd;F x y);zdp z):=rfl
@[simp] theorem ziW:zjs a sd=(do let x<-a sd;zdp x):=rfl
@[simp] theorem zjd:zkd t sd=(do let c<-t sd;pure (!c)):=rfl
@[simp] theorem zsK:zqr t u sd=(do let c<-t sd;if c=true then u sd else pure false):=rfl
@[simp] theorem zqg:tOr t u sd=(do let c<-t sd;if c=true then pure true else u sd):=rfl
@[simp] theorem zlu:znk a b sd=(do let c<-(do let x<-a sd;zdp x);if c=true then b sd else pure (.bl false)):=rfl
@[simp] theorem zt8:cOr a b sd=(do let c<-(do let x<-a sd;zdp x);if c=true then pure (.bl true) else b sd):=rfl
@[simp] theorem zlv:zqs a sd=(do let c<-(do let x<-a sd;zdp x);pure (.bl (!c))):=rfl
@[simp] theorem ztE:cIf t a b sd=(do let c<-t sd;if c=true then a sd else b sd):=rfl
@[simp] theorem zgU {d:D}:cK d sd=pure d:=rfl
@[simp] theorem zbM:zak sd=pure []:=rfl
@[simp] theorem zbm:zac a fs sd=(do let x<-a sd;let r<-fs sd;pure (x::r)):=rfl
@[simp] theorem zk6:zcT fs sd=(do let ds<-fs sd;fits ds.length;pure (.tup ds)):=rfl
@[simp] theorem zi6:zfb fs sd=(do let ds<-fs sd;fits ds.length;pure (.lst ds)):=rfl
@[simp] theorem zg3:zfA fs sd=(do let ds<-fs sd;fits ds.length;zd5 ds):=rfl
@[simp] theorem zfK:zfZ sd=pure (.nx sd):=rfl
@[simp] theorem zbl:zan g g' sd=(do let o<-g sd;andThen o g'):=rfl
@[simp] theorem zcF {i:Nat}:zbf i a sd=(do let d<-a sd;pure (.nx (sd.set i (some d)))):=rfl
@[simp] theorem zce:zbT a sd=(do let d<-a sd;pure (.rt d)):=rfl
@[simp] theorem ziC:sIf t g g' sd=(do let c<-t sd;if c=true then g sd else g' sd):=rfl
@[simp] theorem ziV {fi:FA} {gt:D->Sd->M Sd}:zkf fi gt g sd=(do let ds<-fi sd;zbc (fun x sd=>do let sd1<-gt x sd;g sd1) ds sd):=rfl
@[simp] theorem zoC {gt:D->Sd->M Sd}:zkQ a gt sd=(do let d<-a sd;let sd'<-gt d sd;pure (.nx sd')):=rfl
@[simp] theorem zil:zdN a sd=(do let _<-a sd;pure (.nx sd)):=rfl
@[simp] theorem zsv:iSq a sd=(do let d<-a sd;zfU d):=rfl
@[simp] theorem zi1:zfh fs sd=(do let ds<-fs sd;zlj ds):=rfl
@[simp] theorem zpo {d:D}:zoU a b d sd=(do let x<-a sd;let y<-b sd;zlb x y d;pure sd):=rfl
@[simp] theorem zfB {i:Nat} {d:D}:zaw i d sd=pure (sd.set i (some d)):=rfl
@[simp] theorem zhE:andThen (.nx sd) g=g sd:=rfl
@[simp] theorem zti {d:D}:andThen (.rt d) g=pure (.rt d):=rfl
@[simp] theorem zu8:andThen (.bk sd) g=pure (.bk sd):=rfl
@[simp] theorem zu7:andThen (.ct sd) g=pure (.ct sd):=rfl
@[simp] theorem zss:zb7 (.nx sd)=pure .non:=rfl
@[simp] theorem zht {d:D}:zb7 (.rt d)=pure d:=rfl
@[simp] theorem zdB {c:Bool}:zdp (.bl c)=pure c:=rfl
@[simp] theorem ztm {lo hi:Sd->M (Option Int)}:cSl a lo hi sd=(do let d<-a sd;let l<-lo sd;let u<-hi sd;dSl d l u):=rfl
@[simp] theorem zo9:zfn sd=pure none:=rfl
@[simp] theorem zo4:zfY a sd=(do let d<-a sd;zo6 d):=rfl
@[simp] theorem zsG {i:Int}:zo6 (.int i)=pure (some i):=rfl
@[simp] theorem ztd {ds:List D} {lo hi:Option Int}:dSl (.tup ds) lo hi=pure (.tup (zfi ds lo hi)):=rfl
@[simp] theorem ztf {ds:List D}:zs4 (.tup ds)=pure (.tup ds.reverse):=rfl
@[simp] theorem ztU {i:Int}:zmr (.int i)=pure (.int (-i)):=rfl
@[simp] theorem zfp {i j:Int}:zdo (.int i) (.int j)=pure (.int (i+j)):=rfl
@[simp] theorem zqC {xs ys:List D}:zdo (.tup xs) (.tup ys)=(do fits (xs.length+ys.length);pure (.tup (xs++ys))):=rfl
@[simp] theorem zqJ {xs ys:List D}:zdo (.lst xs) (.lst ys)=(do fits (xs.length+ys.length);pure (.lst (xs++ys))):=rfl
@[simp] theorem ztI {i j:Int}:zqK (.int i) (.int j)=pure (.int (i - j)):=rfl
@[simp] theorem zuD {i j:Int}:zu1 (.int i) (.int j)=pure (.int (Builtin.bitAnd i j)):=rfl
@[simp] theorem zpP {i j:Int}:dLt (.int i) (.int j)=pure (.bl (decide (i<j))):=rfl
@[simp] theorem ztj {i j:Int}:dLe (.int i) (.int j)=pure (.bl (decide (i<=j))):=rfl
@[simp] theorem zuG {i j:Int}:dGt (.int i) (.int j)=pure (.bl (decide (j<i))):=rfl
@[simp] theorem zuZ {i j:Int}:dGe (.int i) (.int j)=pure (.bl (decide (j<=i))):=rfl
@[simp] theorem ztJ {i j:Bool}:zrE (.bl i) (.bl j)=pure (.bl (i != j)):=rfl
@[simp] theorem zrv {ds:List D}:zdn [.tup ds]=pure (.int ds.length):=rfl
@[simp] theorem zrs {ds:List D}:zdn [.lst ds]=pure (.int ds.length):=rfl
@[simp] theorem zow {ds:List D}:zdn [.scr ds]=pure (.int ds.length):=rfl
@[simp] theorem zsY {ds:List D}:zbo [.tup ds]=pure (.tup ds):=rfl
@[simp] theorem znZ {ds:List D}:zbo [.lst ds]=pure (.tup ds):=rfl
@[simp] theorem zob {ds:List D}:zk1 [.tup ds]=pure (.lst ds):=rfl
@[simp] theorem zr8 {ds:List D}:zfU (.tup ds)=pure ds:=rfl
@[simp] theorem ztZ {ds:List D}:zfU (.lst ds)=pure ds:=rfl
@[simp] theorem ziM {F:List D->M D} {x:D}:zap 1 F [x]=F [x]:=rfl
@[simp] theorem zcI {F:List D->M D} {x y:D}:zap 2 F [x,y]=F [x,y]:=rfl
@[simp] theorem zpB {F:List D->M D} {x y z:D}:zap 3 F [x,y,z]=F [x,y,z]:=rfl
@[simp] theorem zcy {body:D->Sd->M Out}:zbc body [] sd=pure (.nx sd):=rfl
theorem zcr {body:D->Sd->M Out} {x:D} {r:List D}:zbc body (x::r) sd=(do let o<-body x sd;match o with | .nx sd'=>zbc body r sd' | .ct sd'=>zbc body r sd' | .bk sd'=>pure (.nx sd') | .rt d=>pure (.rt d)):=rfl
@[simp] theorem zki {gs:List D->Sd->M Sd} {x y:D}:zbO 2 gs (.tup [x,y]) sd=gs [x,y] sd:=rfl
@[simp] theorem zk4:zbP [] sd=pure sd:=rfl
@[simp] theorem zjt {gt:D->Sd->M Sd} {gs:List D->Sd->M Sd} {x:D} {r:List D}:zau gt gs (x::r) sd=(do let sd1<-gt x sd;gs r sd1):=rfl
@[simp] theorem zsz {n:Nat} {k:Int} {d:D}:zlb (.cel n) (.int k) d=(do let ds<-zar n;let j<-ofO (ixN ds.length k);zbX n (ds.set j d)):=rfl
@[simp] theorem zuc {ds:List D} {i:Int}:dIx (.tup ds) (.int i)=ofO (atI ds i):=rfl
@[simp] theorem zo3 {ds:List D} {i:Int}:dIx (.lst ds) (.int i)=ofO (atI ds i):=rfl
@[simp] theorem zt6 {ds:List D} {i:Int}:dIx (.scr ds) (.int i)=ofO (atI ds i):=rfl
@[simp] theorem znE {n:Nat} {i:Int}:dIx (.cel n) (.int i)=(do let ds<-zar n;ofO (atI ds i)):=rfl
@[simp] theorem zir {α:Type} {x:α}:ofO (some x)=pure x:=rfl
@[simp] theorem zqw {x:D} {r:List D}:atI (x::r) 0=some x:=by unfold atI ixN;simp
@[simp] theorem zuk {x y:D} {r:List D}:atI (x::y::r) 1=some y:=by
 have:=zd6 (xs:=x::y::r) (j:=1) (v:=y) rfl
 simpa using this
end
theorem zaL {n:Nat} (h:n<=1000):fits n=pure ():=by
 unfold fits
 rw [qa4 (qaS h (by decide))]
theorem zm3 {i j:Int} (h:(zbi i || zbi j)=true):zrJ (.int i) (.int j)=pure (.int (i*j)):=by
 show (if (zbi i || zbi j)=true then _ else _)=_
 rw [qa4 h]
theorem zgD {i:Int} (h: -1000000000000000<i) (h':i<1000000000000000):zbi i=true:=by unfold zbi;simp;omega
theorem zqN {i j:Int} (h: -1000000000000000<i) (h':i<1000000000000000):zrJ (.int i) (.int j)=pure (.int (i*j)):=zm3 (by rw [zgD h h'];rfl)
theorem ziJ {i j:Int} (h:0<j):zrM (.int i) (.int j)=pure (.int (i % j)):=by
 show (if (decide (0<j))=true then _ else _)=_
 rw [qa4 (by simpa using h)]
theorem zmD {i j:Int} (h:0<j) (h':j<2^64):zp7 (.int i) (.int j)=pure (.int (i / j)):=by
 show (if (decide (0<j) && decide (j<2^64))=true then _ else _)=_
 rw [qa4 (by rw [qaG];exact ⟨by simpa using h,by simpa using h'⟩)]
theorem zn6 {i j:Int}:dEq (.int i) (.int j)=pure (.bl (i==j)):=by
 unfold dEq zlL
 simp only [pd]
 rw [qa4 (show zg9 (.int i) (.int j)=true from rfl)]
 rfl
def wp {α:Type} (m:M α) (h:Hh) (P:α->Hh->Prop):Prop:= ∃ a h',m h= .ok a h'/\P a h'
section
variable {α β:Type} {h:Hh} {P P':α->Hh->Prop}
theorem zam {a:α}:wp (pure a:M α) h P↔P a h:=⟨fun ⟨b,h',e,q⟩=>by cases (show R.ok a h=R.ok b h' from e);exact q,fun q=>⟨a,h,rfl,q⟩⟩
theorem zas {m:M β} {f:β->M α}:wp (m>>=f) h P↔wp m h fun b h'=>wp (f b) h' P:=by
 constructor
 ·rintro ⟨a,h',e,q⟩
  have e:M.bind m f h= .ok a h':=e
  unfold M.bind at e
  cases z:m h with
  | ok b h1=>rw [z] at e;exact ⟨b,h1,z,a,h',e,q⟩
  | exc c h1=>rw [z] at e;cases e
  | bad=>rw [z] at e;cases e
 ·rintro ⟨b,h1,e,a,h',e2,q⟩
  refine ⟨a,h',?_,q⟩
  show M.bind m f h=_
  unfold M.bind
  rw [e]
  exact e2
theorem zeM {m:M α} (q:wp m h P) (k: ∀ a h',P a h'->P' a h'):wp m h P':=by
 obtain ⟨a,h',e,q⟩:=q
 exact ⟨a,h',e,k _ _ q⟩
theorem zbd {n:Nat} {ds:List D} {P:List D->Hh->Prop} (e:h[n]? = some (.lst ds)):wp (zar n) h P↔P ds h:=by
 unfold wp zar
 rw [e]
 exact ⟨fun ⟨b,h',e,q⟩=>by cases e;exact q,fun q=>⟨_,_,rfl,q⟩⟩
theorem zdW {n:Nat} {ds:List D} {P:Unit->Hh->Prop}:wp (zbX n ds) h P↔P () (h.set n (.lst ds)):=⟨fun ⟨b,h',e,q⟩=>by cases (show R.ok () (h.set n (.lst ds))=R.ok b h' from e);exact q,fun q=>⟨_,_,rfl,q⟩⟩
theorem zjA {ds:List D} {P:D->Hh->Prop}:wp (zd5 ds) h P↔P (.cel h.length) (h++[.lst ds]):=⟨fun ⟨b,h',e,q⟩=>by cases (show R.ok (D.cel h.length) (h++[C.lst ds])=R.ok b h' from e);exact q,fun q=>⟨_,_,rfl,q⟩⟩
end
theorem zgm {f:D->M (Option D)} {k:D->Option D}: ∀ {ds:List D},(∀ x∈ds,f x=pure (k x))->zdi f ds=pure (ds.filterMap k)
 | [],_=>rfl
 | x::r,hf=>by
  rw [zdi,hf x qau,zgm fun y hy=>hf y (qan _ hy)]
  simp only [pure_bind]
  cases e:k x<;>simp [qat,e]
theorem zj7 {fi:FA} {g:D->Sd->M Sd} {tc:FT} {te:FE} {src:List (Option Nat)} {sd:Sd} {ds:List D} {k:D->Option D} (hi:fi sd=pure ds) (hl:ds.length<=1000) (hf: ∀ x∈ds,za2 g tc te (zaq src sd) x=pure (k x)):zao fi g tc te src sd=pure (.lst (ds.filterMap k)):=by
 unfold zao
 rw [hi]
 simp only [pure_bind]
 rw [zaL hl]
 simp only [pure_bind]
 rw [zgm hf]
 simp only [pure_bind]
theorem zfu {fi:FA} {g:D->Sd->M Sd} {tc:FT} {te:FE} {src:List (Option Nat)} {sd:Sd} {ds:List D} {k:D->D} (hi:fi sd=pure ds) (hl:ds.length<=1000) (hf: ∀ x∈ds,za2 g tc te (zaq src sd) x=pure (some (k x))):zao fi g tc te src sd=pure (.lst (ds.map k)):=by
 rw [zj7 (k:=fun x=>some (k x)) hi hl hf]
 simp
theorem zjb: ∀ bs:List Bool,znw (bs.map D.bl)=some bs
 | []=>rfl
 | b::r=>by rw [qaM,znw,zjb r];rfl
theorem zei: ∀ bs:List Int,zf2 (bs.map D.int)=some bs
 | []=>rfl
 | b::r=>by rw [qaM,zf2,zei r];rfl
theorem zit (bs:List Bool):zrQ [.lst (bs.map D.bl)]=pure (.bl (bs.all id)):=by
 show (do let bs<-ofO (znw (bs.map D.bl));pure (.bl (bs.all id)):M D)=_
 rw [zjb]
 rfl
theorem zh3 {d:D} {xs:List Int} (e:zkT d=pure (xs.map D.int)) (h:(xs.foldl step_dedup []).length<64) (h2:xs.length<4000):zb2 d=pure (.lst ((zeF xs).map D.int)):=by
 unfold zb2
 rw [e]
 show (do let ns<-ofO (zf2 (xs.map D.int));if (ns.foldl step_dedup []).length<64/\ns.length<4000 then pure (.lst ((zeF ns).map D.int)) else M.bad:M D)=_
 rw [zei]
 show (if (xs.foldl step_dedup []).length<64/\xs.length<4000 then (pure (.lst ((zeF xs).map D.int)):M D) else M.bad)=_
 rw [qa4 ⟨h,h2⟩]
theorem zfz {xs:List Int} (h:xs.length<64):zb2 (.tup (xs.map D.int))=pure (.lst ((zeF xs).map D.int)):=zh3 rfl (Nat.lt_of_le_of_lt (zlg xs) h) (by omega)
noncomputable def kn:D->Bool
 | .non | .bl _ | .int _ | .str _ | .tup _ | .lst _ | .dct=>true
 | _=>false
noncomputable def isT:D->Bool
 | .tup _=>true
 | _=>false
noncomputable def isI:D->Bool
 | .int _=>true
 | _=>false
theorem znQ {d:D} (k:kn d=true):zi2 "tuple" d=pure (.bl (isT d)):=by
 cases d<;>simp [kn] at k<;>simp [zi2,tyD,isB,isT]
theorem zme {d:D} (k:kn d=true):zi2 "int" d=pure (.bl (isI d || (match d with | .bl _=>true | _=>false))):=by
 cases d<;>simp [kn] at k<;>simp [zi2,tyD,isB,isI]
theorem zou {d:D} (k:kn d=true):zi2 "bool" d=pure (.bl (match d with | .bl _=>true | _=>false)):=by
 cases d<;>simp [kn] at k<;>simp [zi2,tyD,isB,isI]
mutual
noncomputable def zkP:D->Bool
 | .non | .bl _ | .int _=>true
 | .str x=>PyData.strOk x
 | .tup ds=>decide (ds.length<64) && ziw ds
 | .lst ds=>decide (ds.length<64) && ziw ds
 | _=>false
noncomputable def ziw:List D->Bool
 | []=>true
 | d::r=>zkP d && ziw r
end
mutual
theorem zpj: ∀ {d:D},zkP d=true-> ∃ p,pd d=some p/\p.canLay0=true
 | .non,_=>⟨.none,rfl,rfl⟩
 | .bl b,_=>⟨.bool b,rfl,rfl⟩
 | .int i,_=>⟨.int i,rfl,rfl⟩
 | .str x,g=>⟨.str x,rfl,by simpa [zkP,PyData.canLay0] using g⟩
 | .tup ds,g=>by
  have g2:ziw ds=true:=by simp [zkP] at g;exact g.2
  obtain ⟨ps,e,c⟩:=zgS g2
  exact ⟨.tuple ps,by unfold pd;rw [e];rfl,c⟩
 | .lst ds,g=>by
  have g2:ziw ds=true:=by simp [zkP] at g;exact g.2
  obtain ⟨ps,e,c⟩:=zgS g2
  exact ⟨.list ps,by unfold pd;rw [e];rfl,c⟩
 | .cel _,g=>by simp [zkP] at g
 | .set _,g=>by simp [zkP] at g
 | .dct,g=>by simp [zkP] at g
 | .fn _,g=>by simp [zkP] at g
 | .scr _,g=>by simp [zkP] at g
 | .exn _,g=>by simp [zkP] at g
theorem zgS: ∀ {ds:List D},ziw ds=true-> ∃ ps,pdL ds=some ps/\PyData.canLayAll0 ps=true
 | [],_=>⟨[],rfl,rfl⟩
 | d::r,g=>by
  simp [ziw] at g
  obtain ⟨p,e,c⟩:=zpj g.1
  obtain ⟨ps,e2,c2⟩:=zgS g.2
  exact ⟨p::ps,by unfold pdL;rw [e,e2],by simp [PyData.canLayAll0,c,c2]⟩
end
theorem zbv: ∀ xs:List Int,pdL (xs.map D.int)=some (xs.map PyData.int)
 | []=>rfl
 | x::r=>by rw [qaM,pdL,zbv r];rfl
theorem zaP: ∀ xs:List Int,PyData.canLayAll0 (xs.map PyData.int)=true
 | []=>rfl
 | x::r=>by simp [PyData.canLayAll0,PyData.canLay0,zaP r]
theorem zaX: ∀ xs:List Int,PyData.depthAll (xs.map PyData.int)=0
 | []=>rfl
 | x::r=>by simp [PyData.depthAll,PyData.depth,zaX r]
theorem zcD: ∀ xs ys:List Int,PyData.eqvAll (xs.map PyData.int) (ys.map PyData.int)=(xs==ys)
 | [],[]=>rfl
 | [],_::_=>rfl
 | _::_,[]=>rfl
 | x::xs,y::ys=>by
  simp only [qaM,PyData.eqvAll,PyData.eqv,zcD xs ys]
  rfl
theorem zez (k:Int): ∀ xs:List Int,((xs.map PyData.int).any fun y=>PyData.eqv y (.int k))=xs.any (· == k)
 | []=>rfl
 | x::r=>by simp only [qaM,List.any_cons,zez k r];rfl
theorem zel (k:Int) (xs:List Int):dIn (.int k) (.tup (xs.map D.int))=pure (.bl (xs.any (· == k))):=by
 show zke false (.int k) (.tup (xs.map D.int))=_
 unfold zke
 simp only [pd]
 rw [zbv]
 have c:zjX (.int k) (xs.map PyData.int)=true:=by
  unfold zjX
  simp [PyData.canLay0,zaP,PyData.depth,zaX]
 simp only [c,if_true,zez]
 rfl
end L3
namespace L2
open PySem PySem.Spec PyProof.Rows LT
section
variable {X:Cx}
theorem zhA:za0 X (.builtin "divmod") (fun xs H Q=> ∃ i j:Int,xs=[.int i,.int j]/\0<j/\j<2^100/\ ∀ p,H p=none->Q (.ref p) (upd H p (.tup [.int (i / j),.int (i % j)]))):=by
 intro pins s σ H xs us Q I r h
 obtain ⟨i,j,rfl,h0,h1,q⟩:=h
 cases r with
 | cons r1 r2=>
  cases r2 with
  | cons r3 r4=>
   cases r4
   obtain ⟨t,rfl⟩:=r1
   obtain ⟨u,rfl⟩:=r3
   refine divmod_int (by omega) ?_ (.inl (PyProof.noPylong_of_log2 ?_))
   ·refine ⟨.ref s.heap.objs.size,_,I.laid (t':=s.toks+1+1) (o:= .tup [.int (i / j),.int (i % j)]) (fun b ob q=>qag _ q) (qaV _) ?_,rfl,q _ (I.hok.fresh (qaV _))⟩
    refine ⟨by show 2<=sizeLine;decide,[.int (i.fdiv j) s.toks,.int (i.fmod j) (s.toks+1)],.cons ⟨s.toks,by rw [Int.fdiv_eq_ediv_of_nonneg _ (by omega)]⟩ (.cons ⟨s.toks+1,by rw [Int.fmod_eq_emod_of_nonneg _ (by omega)]⟩ .nil),IsTup.new _ _⟩
   ·have h1:j.natAbs<2^100:=by omega
    have h0:j.natAbs≠0:=by omega
    exact Nat.lt_trans ((Nat.log2_lt h0).mpr h1) (by decide)
end
end L2
namespace L3
open PySem PySem.Spec PyProof.Rows L2 LT
section
variable {X:Cx} {E:XE} {a b c o e:Expr} {pos apos cpos:Pos} {fa fb fc fo fe:FE}
noncomputable def zfS:List D->M D
 | [.int i,.int j]=>if 0<j/\j<2^100 then pure (.tup [.int (i / j),.int (i % j)]) else M.bad
 | _=>M.bad
theorem zhq:za0 X (.builtin "divmod") (zjL X.K E zfS):=by
 refine za0.imp zhA fun xs H Q ⟨ι,h,ds,rl,hr,q⟩=> ?_
 unfold zfS at q
 split at q
 ·simp only [zat,Rel] at rl
  obtain ⟨v,r,rfl,rfl,v',r',rfl,rfl,rfl⟩:=rl
  obtain ⟨⟨c1,c2⟩,q⟩:=Fin.guard q
  refine ⟨_,_,rfl,c1,c2,fun p hp=>zoh hr ?_ q hp⟩
  exact zat.cons (by simp [Rel]) (zat.cons (by simp [Rel]) zat.nil)
 ·exact qa0 q
noncomputable def zhx (F F':D->D->M D) (a b c:FE):FE:=fun sd=>do
 let x<-a sd
 let y<-b sd
 let z<-F x y
 let k<-zdp z
 if k=true then do let w<-c sd;F' y w else pure (.bl false)
theorem znr {K:W.Frag} {F F':D->D->M D} (σ:St) (H:Hp) (Q:VK) (q:zhC K E (zhx F F' fa fb fc) σ H Q):zon (zee K E F) (zee K E F') (zhC K E fa) (zhC K E fb) (zhC K E fc) σ H Q:=by
 obtain ⟨ι,h,sd,L,hh,q⟩:=q
 refine ⟨ι,h,sd,L,hh,Fin.bind q fun d1 h1 ι1 H1 e1 s1 hr1 q1 v r1=> ?_⟩
 refine ⟨ι1,h1,sd,L.step s1,hr1,Fin.bind q1 fun d2 h2 ι2 H2 e2 s2 hr2 q2 w r2=> ?_⟩
 refine ⟨ι2,h2,d1,d2,r1.step s2,r2,hr2,Fin.bind q2 fun z h3 ι3 H3 e3 s3 hr3 q3 u r3=> ?_⟩
 cases z with
 | bl k=>
  simp only [Rel] at r3
  refine ⟨k,r3,?_⟩
  have L3':=((L.step s1).step s2).step s3
  cases k with
  | false=>exact zpM (Fin.out hr3 q3 _ (by simp [Rel]))
  | true=>
   refine zpd ⟨ι3,h3,sd,L3',hr3,Fin.bind q3 fun d4 h4 ι4 H4 e4 s4 hr4 q4 w4 r4=> ?_⟩
   exact ⟨ι4,h4,d2,d4,(r2.step s3).step s4,r4,hr4,q4⟩
 | _=>exact qa0 q3
theorem zql {op op':CmpOp} {F F':D->D->M D} (ho:OpR X (compareOp op) (zee X.K E F)) (ho':OpR X (compareOp op') (zee X.K E F')) (ha:SE X E a fa) (hb:SE X E b fb) (hc:SE X E c fc)
  (hm:lastMarks [op,op'] [b,c]=false:=by with_unfolding_all rfl):SE X E (.Compare a [op,op'] [b,c] pos) (zhx F F' fa fb fc):=PE.imp (zmZ ho ho' ha hb hc hm) znr
noncomputable def zck:D->M Unit
 | .cel n=>do let _<-zar n;pure ()
 | _=>M.bad
noncomputable def zbr (x y:D):M D:=match x with
 | .cel n=>do
  let ds<-zar n
  fits (ds.length+1)
  zbX n (ds++[y])
  pure .non
 | _=>M.bad
noncomputable def zbk (fo fe:FE):FE:=fun sd=>do
 let x<-fo sd
 zck x
 let y<-fe sd
 zbr x y
theorem zgM {α:Type} {K:W.Frag} {ι:Io} {H:Hp} {h:Hh} {n:Nat} {f:List D->M α} {P:α->Io->Hp->Prop} (q:Fin K E ι H ((zar n>>=f) h) P): ∃ ds,h[n]? = some (.lst ds)/\Fin K E ι H (f ds h) P:=by
 have q':Fin K E ι H (M.bind (zar n) f h) P:=q
 unfold M.bind at q'
 cases z:zar n h with
 | bad=>rw [z] at q';exact qa0 q'
 | exc c h'=>unfold zar at z;split at z<;>cases z
 | ok ds h'=>
  rw [z] at q'
  obtain ⟨rfl,z2⟩:=zc3 z
  exact ⟨ds,z2,q'⟩
theorem zdf (ho:SE X E o fo) (he:SE X E e fe)
  (hbase:attributeBase o "append" X.env (eval o X.env)=eval o X.env:=by rfl)
  (hfew:((backTo cpos (starEach [e] X.env)).all (fun x=> !x.1) && (backToKw cpos (keywordEach [] X.env)).all (fun x=>x.1.isSome)
    && decide (([e]:List Expr).length+([]:List Keyword).length+(if ([]:List Keyword).isEmpty then 0 else 1)<30))=true:=by rfl)
  (hline:(apos.endLine==cpos.line)=true:=by rfl) (hs:starEach [e] X.env=(false,eval e X.env)::starEach [] X.env:=by rfl) (hplain:(backTo cpos (starEach [] X.env)).any (·.1)=false:=by rfl):
  SE X E (.Call (.Attribute o "append" apos) [e] [] cpos) (zbk fo fe):=by
 refine PE.imp (zpQ PySem.F.plainAttrs_list PySem.F.slot_list_append PySem.F.type_list_append zh2 ho (zbs he zcs hs) hbase hfew hline hs hplain) fun σ H Q ⟨ι,h,sd,L,hh,q⟩=>⟨ι,h,sd,L,hh,Fin.bind q fun d h1 ι1 H1 e1 s1 hr1 q1 v rv=> ?_⟩
 cases d with
 | cel n=>
  have q2:Fin X.K E ι1 H1 ((zar n>>=fun _=>fe sd>>=fun y=>zbr (.cel n) y) h1) (fun d ι' H'=> ∀ v,Rel X.K ι' H' d v->Q v H'):=by
   have ee:(zck (.cel n)>>=fun _=>fe sd>>=fun y=>zbr (.cel n) y:M D)=(zar n>>=fun _=>fe sd>>=fun y=>zbr (.cel n) y):=by
    show ((zar n>>=fun _=>pure ())>>=fun _=>fe sd>>=fun y=>zbr (.cel n) y)=_
    simp only [bind_assoc,pure_bind]
   rw [<- ee]
   exact q1
  obtain ⟨ds,e2,q3⟩:=zgM q2
  obtain ⟨a,vs,rfl,hn,hH,rl⟩:=hr1.read rv e2
  refine ⟨.inl ⟨rfl,vs,SqL.of hH⟩,ι1,h1,sd,L.step s1,hr1,Fin.bind q3 fun y h3 ι3 H3 e3 s3 hr3 q4 w rw'=> ?_⟩
  have rv3:=rv.step s3
  have q5:Fin X.K E ι3 H3 ((zar n>>=fun ds=>fits (ds.length+1)>>=fun _=>zbX n (ds++[y])>>=fun _=>pure D.non) h3) (fun d ι' H'=> ∀ v,Rel X.K ι' H' d v->Q v H'):=q4
  obtain ⟨ds3,e4,q6⟩:=zgM q5
  obtain ⟨a3,vs3,ea,hn3,hH3,rl3⟩:=hr3.read rv3 e4
  cases ea
  obtain ⟨z,q7⟩:=Fin.fits q6
  refine ⟨a,vs3,w,rfl,rfl,hH3,by rw [<- rl3.length];omega,?_⟩
  have q8:Fin X.K E ι3 H3 (R.ok D.non (h3.set n (.lst (ds3++[y])))) (fun d ι' H'=> ∀ v,Rel X.K ι' H' d v->Q v H'):=q7
  exact q8 ι3 _ (hr3.cellS hn3) (hr3.cell hn3 (rl3.append (zat.cons rw' zat.nil))) _ (by simp [Rel])
 | _=>exact qa0 q1
end
end L3
namespace Att
open PySem PySem.W PySem.Calls PyProof.Rows
theorem zgh: ∀ {ns:List Int} {i:Int},i∈ns->Builtin.Int.intBits i<=WData.weightAll (ns.map WData.int)
 | n::r,i,h=>by
  rw [qaM,WData.weightAll]
  rcases qaP.mp h with e | e
  ·subst e
   have:WData.weight (.int i)=Builtin.Int.intBits i:=by simp only [WData.weight,Builtin.Int.intBits]
   omega
  ·have:=zgh e
   omega
theorem zp9 {ns:List Int} (h:WData.layableAll [WData.list (ns.map WData.int)]=true): ∀ i∈ns,Builtin.Int.intBits i<=2^20:=by
 intro i hi
 have h2:WData.weight (WData.list (ns.map WData.int))<=2^20:=by
  simp only [WData.layableAll,List.all_cons,List.all_nil,Bool.and_true,WData.layable,qaG,qaD] at h
  exact h.2
 have h3:WData.weight (WData.list (ns.map WData.int))=WData.weightAll (ns.map WData.int):=by simp only [WData.weight]
 have:=zgh hi
 omega
theorem zhv {l:OpenLaw} {n:Nat} {q:Program} {loose:List Str} {XP:(Str->Option Value)->Heap->Prop} {YP:World->Heap->Prop} {d:DefRec}
  (hn:l.most=some n) (hdf:d.params.defaults=[])
  (call: ∀ (w:World) (s₀ s₁:Shared) (mg mb:Str->Option Value) (fa:Addr) (o:Obj) (pm cd doc:Value) (a:Addr) (vs:List Value) (ns:List Int),
    Ground q loose [] XP w s₀ mg mb s₁.heap->YP w s₁.heap->
    s₁.heap.get? fa=some o->o.data= .func (docDef d.name d.params d.body d.scope pm cd doc)->s₁.heap.CodeRec cd d.name->mg d.name=some (.ref fa)->
    s₁.heap.get? a=some {cls:= .type "list",data:= .seq vs.toArray}->IntsAre vs ns->ns.length<=n->(∀ i∈ns,Builtin.Int.intBits i<=2^20)->s₁.gens= #[]->
    codeAny (model l.prog w) callerA (.call (.ref fa) ⟨[.ref a],[]⟩) (fun r s'=>r= .ok (.ret (.bool true))/\OldK s₁.heap s'.heap/\s'.os=s₁.os/\AllBare s'.gens) s₁):
  WalkO q loose XP YP l.row.toRowW d [] (fun f vs=>PySem.call f vs):=by
 intro w s₀ s₁ mg mb G Y fa o pm cd doc dV kV ho hd hcd hD hmg hg args vals as hpre hlay hrd hwl hlo
 obtain rfl:dV= .none:=Dflts.none hD hdf
 obtain rfl:kV= .none:=Dflts.noKw hD
 obtain ⟨a,vs,ns,rfl,rfl,hobj,hints,hlen⟩:=zl1 hn hpre hwl
 refine enter_call (codeAny_mono (call w s₀ s₁ mg mb fa o pm cd doc a vs ns G Y ho (fd_plain hd) hcd hmg hobj hints hlen (zp9 hlay) hg) fun r s' hq=> ?_)
 obtain ⟨rfl,h2,h3,h4⟩:=hq
 exact ⟨.inl ⟨.bool true,.bool true,[],rfl,fun _=>rfl,.bool true,zlf l _,fun _=>⟨List.Pairwise.nil,fun _ hm=>(nomatch hm)⟩⟩,h2,h3,h4⟩
end Att
namespace L2
open PySem PySem.Spec PyProof.Rows
theorem zmE {l:W.OpenLaw} {n k:Nat} {q:Program} {loose:List Str} {XP:(Str->Option Value)->Heap->Prop} {YP:World->Heap->Prop} {d:DefRec} {K:Params->W.Frag} {CX:World->CXT} {sp:World->Sp} {x:Str}
  (hn:l.most=some n) (hn2:n<=sizeLine) (hdf:d.params.defaults=[]) (hr:zdV k callerA)
  (hY: ∀ (w:World) (h:Heap),YP w h->(K w.params).In h)
  (F: ∀ (w:World) (mg:Str->Option Value) (fa:Addr) (h:Heap),(K w.params).In h->h.Ns mainGlobals mg->mg d.name=some (.ref fa)->
    ∃ fd:FuncData,(∀ (s:Shared) (u:Value),BindsTo s fd ⟨[u],[]⟩ [(x,u)])/\
      ∀ base:Heap,(K w.params).In base->base.Ns mainGlobals mg->zbq l.prog w (K w.params) mg base (CX w) k fa fd [x] (sp w))
  (hsp: ∀ (w:World) (H:Hp) (a:Addr) (ns:List Int),ns.length<=n->(∀ i∈ns,Builtin.Int.intBits i<=2^20)->SqL (K w.params) H a (ns.map V.int)->sp w [.ref a] H (fun v _=>v= .bl true) fun _ _ _=>False)
  (hCX: ∀ (w:World) (H:Hp) (s:Shared) (e:Value) (s':Shared),CX w [] H s (fun _ _ _=>False) e s'->False):
  W.WalkO q loose XP YP l.row.toRowW d [] (fun f vs=>PySem.call f vs):=by
 refine Att.zhv hn hdf fun w s₀ s₁ mg mb fa o pm cd doc a vs ns G Y ho hd hcd hmg hobj hints hlen hbits hg=> ?_
 have KX:=hY w _ Y
 obtain ⟨fd,hb,hF⟩:=F w mg fa _ KX G.T.g hmg
 exact zmQ KX G.T.g G.T.b G.T.builtins G.T.nolimit hg hobj hints (qaS hlen hn2) hr hF hb (fun H hO hS=>hsp w H a ns hlen hbits hS) fun H e s'=>hCX w H s₁ e s'
end L2
namespace L3
open PySem PySem.Spec PyProof.Rows L2 LT
section
variable {X:Cx} {E:XE}
noncomputable def zhI (i j:Int):Bool:=decide (Builtin.Int.intBits i+Builtin.Int.intBits j<=2^26)
theorem zl2 {i j:Int} (h:zhI i j=true):IntMulOk i j:=by
 unfold zhI at h
 rw [qaD] at h
 unfold IntMulOk
 intro z
 rw [qaG] at z
 have z2:=z.2
 unfold Builtin.Int.intTooBig at z2
 have hb:bitsLine=2^27:=rfl
 rw [qaD,hb] at z2
 omega
theorem zpF:OpR X (binaryOp .Mult) (rI (fun i j=>IntMulOk i j) fun i j=> .int (i*j)):=opI fun _ _ _ _ _ _ _ hc q=>mul_int q hc
noncomputable def zgT:=dII (fun i j=>zbi i || zbi j || zhI i j) fun i j=> .int (i*j)
theorem zfE:OpR X (binaryOp .Mult) (zee X.K E zgT):=znl (zpF) (fun i j h=>by
  rw [Bool.or_eq_true] at h
  rcases h with h | h
  · rcases (Bool.or_eq_true _ _).mp h with z | z
    · have:=zc7 z
      exact IntMulOk.of_left (intBits_le_64 this.1 this.2)
    · have:=zc7 z
      exact IntMulOk.of_right (intBits_le_64 this.1 this.2)
  · exact zl2 h) fun _ _ _ _=>by simp [Rel]
end
end L3
namespace PySem
open Sem (wp)
open AutoSeq1 (wpAny_loadPart')
section
variable {prog:Program} {w:World} {A:Around} {E:Value->Shared->Prop} {s:Shared}
theorem zgK {Q:List Value->Shared->Prop} {r:Addr} {a b c:Int} {t u v:Tok} {n:Nat} (hh:A.handled=none) (hr:IsRange s.heap r a b c t u v) (hsmall:Builtin.Range.small a b c=true)
  (hn:Builtin.Range.rangeSize a b c=n) (hlen:n<=2^24)
  (hQ: ∀ h' tk acc,(∀ b o,s.heap.get? b=some o->h'.get? b=some o)->ItemsOf (fun i v=> ∃ t,v= .int (a+i*c) t) acc n->Q acc.toList {s with heap:=h',toks:=tk}):
  wpAny (model prog w) A (collect (.ref r)) Q E s:=by
 unfold collect
 refine qaW (wpAny_runValue (codeAny_builtin F.entry_proto_collect ?_))
 rw [qap F.plain_proto_collect _]
 show wpAny _ A.in1 (newList []>>=fun l=>again (.builtin "list.__iadd__" ⟨[l,.ref r],[]⟩)) _ _ s
 refine qaW (qaC ?_)
 refine qaX ⟨plainId_quiet F.plain_list_iadd _,codeAny_builtin F.entry_list_iadd ?_⟩
 rw [qap F.plain_list_iadd _]
 show wpAny _ A.in1 (Builtin.List.listExtendWith (.ref s.heap.objs.size) (.ref r) (.ref s.heap.objs.size)) _ _ _
 have hS:(s.heap.push {cls:= .type "list",data:= .seq ([]:List Value).toArray}).get? s.heap.objs.size=some {cls:= .type "list",data:= .seq #[] 0}:=qar _ rfl
 have zt2: ∀ (h':Heap) (tk:Nat) (acc:Array Value) (c':Nat),(∀ b o,b≠s.heap.objs.size->(s.heap.push {cls:= .type "list",data:= .seq ([]:List Value).toArray}).get? b=some o->h'.get? b=some o)->h'.get? s.heap.objs.size=some {cls:= .type "list",dict:=none,data:= .seq acc c',slots:= #[]}->
   ItemsOf (fun i v=> ∃ t,v= .int (a+i*c) t) acc n->wpAny (model prog w) A (match Value.ref s.heap.objs.size with
   | Value.ref a=>do
     match (<- load a).data with
       | Data.seq xs _=>pure xs.toList
       | _=>unsupported "internal:collect"
   | _=>unsupported "internal:collect") Q E {s with heap:=h',toks:=tk}:=fun h' tk acc c' hk hS' hacc=>by
  show wpAny _ A (load s.heap.objs.size>>=_) _ _ _
  refine qaW (wpAny_load hS' ?_)
  refine qaX ?_
  exact hQ h' tk acc (fun b o e=>hk b o (qaR (qaQ e)) (qag _ e)) hacc
 refine qaZ (wpAny_extend_range (A:=A) (s:={s with heap:=s.heap.push {cls:= .type "list",data:= .seq ([]:List Value).toArray}}) (R:=fun res s'=>res= .ok (.ret (.ref s.heap.objs.size))/\ ∃ (h':Heap) (tk:Nat) (acc:Array Value) (c':Nat),s'={s with heap:=h',toks:=tk}/\
     (∀ b o,b≠s.heap.objs.size->(s.heap.push {cls:= .type "list",data:= .seq ([]:List Value).toArray}).get? b=some o->h'.get? b=some o)/\h'.get? s.heap.objs.size=some {cls:= .type "list",dict:=none,data:= .seq acc c',slots:= #[]}/\ItemsOf (fun i v=> ∃ t,v= .int (a+i*c) t) acc n)
   hh (qag _ hr) hsmall hn hlen s.heap.objs.size (.ref s.heap.objs.size) 0 hS fun h' tk acc c' hk hS' hacc=>⟨rfl,h',tk,acc,c',rfl,hk,hS',hacc⟩) (fun fin s' h=> ?_) (fun e s' h=> ?_)
 ·cases fin with
  | done f=>
   obtain ⟨e,h',tk,acc,c',rfl,hk,hS',hacc⟩:=h
   cases e
   exact zt2 h' tk acc c' hk hS' hacc
  | again c'=>exact ⟨h.1,codeAny_mono h.2 fun r s'' hr=>by obtain ⟨rfl,h',tk,acc,c',rfl,hk,hS',hacc⟩:=hr;exact zt2 h' tk acc c' hk hS' hacc⟩
 ·exact absurd h.1 (by simp)
end
theorem zdt (l:Addr) (a b c:Int) (t u v:Tok) (n:Nat) (hsmall:Builtin.Range.small a b c=true) (hn:Builtin.Range.rangeSize a b c=n) (hlen:n<=2^24):
  Meets (Builtin.«tuple.__new__» ⟨[.type "tuple",.ref l],[]⟩)
   (fun A R s=>A.in1.handled=none/\IsRange s.heap l a b c t u v/\ ∀ (h':Heap) (tk:Nat) (acc:Array Value),(∀ b o',s.heap.get? b=some o'->h'.get? b=some o')->ItemsOf (fun i v=> ∃ t,v= .int (a+i*c) t) acc n->R (.ok (.ret (.ref h'.objs.size))) {s with heap:=h'.push {cls:= .type "tuple",data:= .seq acc},toks:=tk}):=
 .of_wp fun prog w A R s h=>by
  obtain ⟨hp,g,d,tk,os⟩:=s;obtain ⟨hh,ht,h⟩:=h
  have hsub:=sub_tuple_self
  have hinit:=init_tuple_lookup
  have hmh:=madeHere_tuple
  have hT:Shared.TypeIs ⟨hp,g,d,tk,os⟩ (.ref l) "range":=⟨_,ht,rfl⟩
  wp_walk using wpAny_loadPart' ht,wpAny_typeOf hT,zgK hh ht hsmall hn hlen
  intro h' tk' acc hk hacc
  show wpAny _ _ (Builtin.Tuple.tupleExact acc.toList.toArray>>=fun v=>ret v) _ _ _
  unfold Builtin.Tuple.tupleExact
  have hsz:acc.size<=sizeLine:=by
   have:acc.size=n:=hacc.1
   have:sizeLine=2^24:=rfl
   omega
  refine qaW (qaC ?_ (by show acc.toList.toArray.size<=sizeLine;simpa using hsz))
  refine qaX ⟨_,rfl,?_⟩
  have e:acc.toList.toArray=acc:=by simp
  rw [e]
  exact h h' tk' acc hk hacc
end PySem
namespace L2
open PySem PySem.Spec PyProof.Rows LT
theorem zed: ∀ (ns:List Int) (us:List Value),ns.length=us.length->(∀ (j:Nat) u,us[j]? = some u-> ∃ t,u=Value.int (ns.getD j 0) t)->za7 (ns.map V.int) us
 | [],[],_,_=> .nil
 | [],_::_,h,_=>by cases h
 | _::_,[],h,_=>by cases h
 | n::ns,u::us,h,hg=>by
  refine .cons ?_ (zed ns us (by simpa using h) fun j w e=> ?_)
  ·obtain ⟨t,e⟩:=hg 0 u rfl
   exact ⟨t,by simpa using e⟩
  ·obtain ⟨t,e⟩:=hg (j+1) w (by simpa using e)
   exact ⟨t,by simpa using e⟩
section
variable {X:Cx}
theorem zfC:za0 X (.type "range") (fun xs H Q=> ∃ j:Int,xs=[.int j]/\ ∀ p,H p=none->Q (.ref p) (upd H p (.rng 0 j))):=by
 intro pins s σ H xs us Q I r h
 obtain ⟨j,rfl,q⟩:=h
 obtain ⟨u,rfl,rx⟩:=zeO r
 obtain ⟨t,rfl⟩:=rx
 refine call_range_1 ?_
 exact ⟨.ref s.heap.objs.size,_,I.laid (t':=s.toks+1+1) (o:= .rng 0 j) (fun b ob q=>qag _ q) (qaV _) ⟨_,_,_,qar _ rfl⟩,rfl,q _ (I.hok.fresh (qaV _))⟩
theorem zjB {j:Int} (h0:0<=j):Builtin.Range.rangeSize 0 j 1=(j.toNat:Int):=by
 unfold Builtin.Range.rangeSize
 rw [qa4 (by decide)]
 split
 ·rw [Int.ediv_one];omega
 ·omega
theorem zgZ (hc:X.calm=true):za0 X (.type "tuple") (fun xs H Q=> ∃ (p:Addr) (j:Int),xs=[.ref p]/\H p=some (.rng 0 j)/\0<=j/\j<1000/\ ∀ l,H l=none->Q (.ref l) (upd H l (.tup (((List.range j.toNat).map fun (k:Nat)=>(k:Int)).map V.int)))):=by
 intro pins s σ H xs us Q I r h
 obtain ⟨p,j,rfl,hp,h0,h1,q⟩:=h
 obtain ⟨u,rfl,rx⟩:=zeO r
 cases rx
 obtain ⟨t,u',v,hr⟩:=(show zbU X.prog X.w H s.heap p (.rng 0 j) from I.hok p _ hp)
 refine callType_new F.called_tuple (by decide) (F.typeCall_tuple_1 _) (F.newCall_tuple_1 _) (fun obj=>F.args_object_init_2 obj _) F.entry_tuple_new
  (zdt p 0 j 1 t u' v j.toNat (small_one (by omega) (by omega) (by omega) (by omega)) (zjB h0) (by omega)) ⟨show X.A.in1.in1.handled=none from I.ok.hd hc,hr,fun h' tk acc hk hacc=>⟨⟨_,qar _ rfl,rfl⟩,?_⟩⟩
 have I1:Inv X pins σ H {s with heap:=h',toks:=tk}:=I.kept (t':=tk) hk
 have hl:acc.toList.length=j.toNat:=by rw [qas];exact hacc.1
 have I2:=I1.laid (t':=tk) (h':=h'.push {cls:= .type "tuple",data:= .seq acc}) (a:=h'.objs.size) (o:= .tup (((List.range j.toNat).map fun (k:Nat)=>(k:Int)).map V.int)) (fun b o e=>qag _ e) (qaV _)
  ⟨by rw [qaH,qaH,List.length_range];exact qaS (show j.toNat<=1000 by omega) (by decide),acc.toList,zed _ _ (by rw [qaH,List.length_range,hl]) (fun k w e=> ?_),by simpa using IsTup.new _ _⟩
 ·exact ⟨.ref h'.objs.size,_,I2,rfl,q _ (I1.hok.fresh (qaV _))⟩
 ·have hk':k<j.toNat:=by rw [<- hl];exact (qac.mp e).1
  obtain ⟨t,et⟩:=hacc.2 k w (by simpa using e)
  refine ⟨t,?_⟩
  rw [et]
  simp [hk']
end
end L2
namespace L3
open PySem PySem.Spec PyProof.Rows L2 LT
section
variable {X:Cx} {E:XE} {e:Expr} {f:FE}
noncomputable def zeI:D->M D
 | .int j=>if 0<=j/\j<1000 then pure (.tup (ze6 0 j.toNat)) else M.bad
 | _=>M.bad
theorem zjx {K:W.Frag} {ι:Io} {H:Hp} {n:Nat}:zat K ι H (ze6 0 n) (((List.range n).map fun (k:Nat)=>(k:Int)).map V.int):=by
 have:ze6 0 n=((List.range n).map fun (k:Nat)=>(k:Int)).map D.int:=by unfold ze6;simp
 rw [this]
 exact zdC.mpr rfl
theorem ze8 {p1 p2 pos pos2:Pos} (hc:X.calm=true) (hm1:X.mg "tuple"=none) (hm2:X.mg "range"=none) (he:SE X E e f) (hg1:Gl X "tuple":=by rfl) (hg2:Gl X "range":=by rfl)
  (h1:starEach [.Call (.Name "range" p2) [e] [] pos2] X.env=[(false,eval (.Call (.Name "range" p2) [e] [] pos2) X.env)]:=by rfl) (h2:starEach [e] X.env=[(false,eval e X.env)]:=by rfl):
  SE X E (.Call (.Name "tuple" p1) [.Call (.Name "range" p2) [e] [] pos2] [] pos) (cUn zeI f):=by
 refine PE.imp (zc2 (zgZ hc) hg1 hm1 PyProof.Rows.boot_tuple (zbs (zc2 zfC hg2 hm2 boot_range (zbs he zcs h2) (he:=h2)) zcs h1) (he:=h1)) fun σ H Q ⟨ι,h,sd,L,hh,q⟩=>⟨ι,h,sd,L,hh,Fin.bind q fun d h1 ι1 H1 e1 s1 hr1 q1 v rv=> ?_⟩
 cases d with
 | int j=>
  simp only [Rel] at rv
  obtain ⟨⟨c1,c2⟩,q2⟩:=Fin.guard q1
  refine ⟨j,by rw [rv],fun p hp=> ?_⟩
  have hr2:zbg X.K ι1 (upd H1 p (.rng 0 j)) h1:=hr1.laid hp
  exact ⟨p,j,rfl,zaS,c1,c2,fun l hl=>zoh hr2 zjx (Fin.step (hr1.laidS hp) q2) hl⟩
 | _=>exact qa0 q1
end
@[simp] theorem zaY {d:D} {r:Sd}:zaf 0 (some d::r)=pure d:=rfl
@[simp] theorem zbe {n:Nat} {x:Option D} {r:Sd}:zaf (n+1) (x::r)=zaf n r:=rfl
noncomputable def zbW (m:Int):Int->List D->Bool
 | _,[]=>true
 | l,.int i::r=>decide (l<=i) && decide (i<m) && zbW m (i+1) r
 | _,_::_=>false
theorem zb4 {m:Int}: ∀ {xs:List Int} {l:Int},zbW m l (xs.map D.int)=true↔xs.Pairwise (· < ·)/\ ∀ x∈xs,l<=x/\x<m
 | [],l=>by simp [zbW]
 | x::r,l=>by
  rw [qaM,zbW,qaG,qaG,zb4 (xs:=r) (l:=x+1),qay]
  simp only [qaD,qaP,forall_eq_or_imp]
  constructor
  ·rintro ⟨⟨h1,h2⟩,h3,h4⟩
   refine ⟨⟨fun y hy=> ?_,h3⟩,⟨h1,h2⟩,fun y hy=> ?_⟩
   ·have:=(h4 y hy).1;omega
   ·have:=h4 y hy;omega
  ·rintro ⟨⟨h1,h2⟩,⟨h3,h4⟩,h5⟩
   refine ⟨⟨h3,h4⟩,h2,fun y hy=> ?_⟩
   have a1:=h1 y hy
   have a2:=h5 y hy
   omega
theorem zgJ {m:Int}: ∀ {ts:List D} {l:Int},zbW m l ts=true->ts.all isI=true
 | [],_,_=>rfl
 | d::r,l,h=>by
  cases d<;>first
   | (simp [zbW] at h;done)
   | (rw [zbW,qaG] at h;rw [List.all_cons,zgJ h.2];rfl)
theorem ziu: ∀ {ts:List D},ts.all isI=true-> ∃ xs:List Int,ts=xs.map D.int
 | [],_=>⟨[],rfl⟩
 | d::r,h=>by
  rw [List.all_cons,qaG] at h
  obtain ⟨xs,e⟩:=ziu h.2
  cases d<;>first
   | (simp [isI] at h;done)
   | (rename_i i;exact ⟨i::xs,by rw [e];rfl⟩)
theorem zkq {xs:List Int} (h:xs.Pairwise (· < ·)):zeF xs=xs:=by
 have hn:xs.Nodup:=h.imp fun z=>by omega
 have hp:List.Perm (xs.foldl step_dedup []) xs:=by
  refine (List.perm_ext_iff_of_nodup (zea xs [] List.nodup_nil) hn).mpr fun k=>zhX
 unfold zeF
 exact (zer hp.symm (h.imp fun z=>by omega)).symm
theorem zgx {m:Int}: ∀ {ts:List D} {l:Int},zbW m l ts=true->l<=m->(ts.length:Int)<=m - l
 | [],l,_,h=>by simp;omega
 | d::r,l,h,hl=>by
  cases d<;>first
   | (simp [zbW] at h;done)
   | (rename_i i
      rw [zbW,qaG,qaG,qaD,qaD] at h
      have:=zgx h.2 (by omega)
      simp
      omega)
def Bx (b:Nat) (h:Hh):Prop:= ∃ z:Int,h[b]? = some (.lst [.int z])
def Ext (b:Nat) (h h':Hh):Prop:=Bx b h'/\ ∀ (n:Nat) (c:C),n≠b->h[n]? = some c->h'[n]? = some c
theorem Ext.refl {b:Nat} {h:Hh} (q:Bx b h):Ext b h h:=⟨q,fun _ _ _ e=>e⟩
theorem Ext.trans {b:Nat} {h h1 h2:Hh} (p:Ext b h h1) (q:Ext b h1 h2):Ext b h h2:=⟨q.1,fun n c hn e=>q.2 n c hn (p.2 n c hn e)⟩
theorem Bx.set {b:Nat} {h:Hh} {z:Int} (q:Bx b h):Ext b h (h.set b (.lst [.int z])):=by
 obtain ⟨y,e⟩:=q
 have hl:=(qac.mp e).1
 exact ⟨⟨z,qai hl⟩,fun n c hn e=>by rw [qao (Ne.symm hn)];exact e⟩
theorem Bx.push {b:Nat} {h:Hh} {c:C} (q:Bx b h):Ext b h (h++[c]):=by
 obtain ⟨y,e⟩:=q
 have hl:=(qac.mp e).1
 refine ⟨⟨y,by rw [qad hl];exact e⟩,fun n c' hn e=> ?_⟩
 rw [qad (qac.mp e).1]
 exact e
theorem zbQ {j:Int} (h0:0<=j) (h:j<1000):zlj [.int j]=pure (ze6 0 j.toNat):=by
 show (if zd9 j=true then _ else _)=_
 rw [qa4 (by unfold zd9;simp;omega)]
theorem zlN {n:Nat} {d:D} (h:d∈ze6 0 n): ∃ i:Int,d= .int i/\0<=i/\i<n:=by
 unfold ze6 at h
 obtain ⟨k,hk,e⟩:=qaU.mp h
 have:=List.mem_range.mp hk
 exact ⟨0+(k:Int),e.symm,by omega,by omega⟩
theorem zkA {n:Nat}:(ze6 0 n).length=n:=by unfold ze6;simp
theorem zbp (n:Nat):ze6 0 n=((List.range n).map fun (k:Nat)=>(k:Int)).map D.int:=by unfold ze6;simp
theorem zkx {α:Type} {c:Prop} [Decidable c] {a b:M α} {h:Hh} {P:α->Hh->Prop}:wp (if c then a else b) h P↔if c then wp a h P else wp b h P:=by split<;>exact Iff.rfl
end L3
namespace L2
open PySem PySem.Spec PyProof.Rows L3
theorem zbU.there {P:Program} {w:World} {H:Hp} {h:Heap} {a:Addr} {o:HO} (x:zbU P w H h a o): ∃ ob,h.get? a=some ob:=by
 cases o with
 | lst xs=>obtain ⟨_,_,_,_,e⟩:=x;exact ⟨_,e⟩
 | tup xs=>obtain ⟨_,_,_,ob,e,_⟩:=x;exact ⟨ob,e⟩
 | dK kvs=>obtain ⟨_,_,_,_,ob,_,_,e,_⟩:=x;exact ⟨ob,e⟩
 | dT kvs=>obtain ⟨_,_,_,_,ob,_,_,e,_⟩:=x;exact ⟨ob,e⟩
 | set S n=>obtain ⟨ob,_,_,_,e,_⟩:=x;exact ⟨ob,e⟩
 | ins C dx fs=>obtain ⟨_,_,_,e,_⟩:=x;exact ⟨_,e⟩
 | own y=>exact x
 | xd fs=>obtain ⟨_,⟨ob,_,_,e,_⟩,_⟩:=x;exact ⟨ob,e⟩
 | rng lo hi=>obtain ⟨_,_,_,e⟩:=x;exact ⟨_,e⟩
 | frz ob u=>exact ⟨ob,x.1⟩
 | tbl ps=>exact ⟨_,x⟩
 | met f y=>exact ⟨_,x⟩
 | ext φ=>exact x.2.1
structure HS (H H':Hp) (h:Heap):Prop where
 free: ∀ b o,h.get? b=some o->H b=none->H' b=none
 tups: ∀ b xs,H b=some (.tup xs)->H' b=some (.tup xs)
 frzs: ∀ b o u,H b=some (.frz o u)->H' b=some (.frz o u)
 tbls: ∀ b ps,H b=some (.tbl ps)-> ∃ more,H' b=some (.tbl (ps++more))
structure FlB (P:Program) (w:World) (l:List Env) (H:Hp) (h:Heap) (H':Hp) (B:Heap):Prop where
 old: ∀ b o,h.get? b=some o->b∉frs l-> ∃ o',B.get? b=some o'/\(H b=none->o'=o)
 trk: ∀ b u,H' b=some u-> ∃ o,B.get? b=some o
 ok:HOk P w H' B
structure Fl (P:Program) (w:World) (l:List Env) (H:Hp) (s:Shared) (a C:Addr) (fl:Value) (H':Hp) (s':Shared):Prop where
 os:s'.os=s.os
 bare:AllBare s'.gens
 base: ∃ B:Heap,Fly B l a (.ref C) fl s'.heap/\FlB P w l H s.heap H' B
 slot: ∀ b o,s.heap.get? b=some o->H b=none->b∈frs l-> ∃ sl,s'.heap.get? b=some {o with slots:=sl}
 hs:HS H H' s.heap
section
variable {P:Program} {w:World} {l:List Env} {H H':Hp} {s s':Shared} {a C:Addr} {fl:Value}
theorem Fl.un (y:Fl P w l H s a C fl H' s'):Un (frs l) [] H H' s.heap s'.heap:=by
 obtain ⟨B,y1,y2⟩:=y.base
 refine ⟨fun b o e n hb _=> ?_,fun b o e n hb _=>y.slot b o e n hb,fun b o e n _=>y.hs.free b o e n,fun b o e _=> ?_,y.hs.tups,y.hs.frzs,y.hs.tbls⟩
 ·obtain ⟨o',e',q⟩:=y2.old b o e hb
  rw [<- q n]
  exact y1.stays b o' e'
 ·by_cases hb:b∈frs l
  ·obtain ⟨_,o',e',_⟩:=y1.frames.mem hb
   exact ⟨o',e'⟩
  ·obtain ⟨o',e',_⟩:=y2.old b o e hb
   exact ⟨o',y1.stays b o' e'⟩
theorem Fl.hok (y:Fl P w l H s a C fl H' s'):HOk P w H' s'.heap:=by
 obtain ⟨B,y1,y2⟩:=y.base
 exact y2.ok.kept y1.stays
theorem Fl.exc (y:Fl P w l H s a C fl H' s'): ∃ head,zic s'.heap a (.ref C) head:=by
 obtain ⟨B,y1,y2⟩:=y.base
 obtain ⟨hd,z,_⟩:=y1.exc
 exact ⟨hd,z⟩
theorem Fl.fresh (y:Fl P w l H s a C fl H' s'):s.heap.get? a=none/\H' a=none/\a∉frs l:=by
 obtain ⟨B,y1,y2⟩:=y.base
 have nf:a∉frs l:=fun z=>by
  obtain ⟨_,o,e,n⟩:=y1.frames.mem z
  obtain ⟨_,⟨ob,vs,e2,_,_,d,_⟩,_⟩:=y1.exc
  rw [e] at e2
  cases e2
  exact n vs d
 refine ⟨?_,?_,nf⟩
 ·cases q:s.heap.get? a with
  | none=>rfl
  | some o=>
   obtain ⟨o',e,_⟩:=y2.old a o q nf
   rw [y1.new] at e
   cases e
 ·cases q:H' a with
  | none=>rfl
  | some u=>
   obtain ⟨o',e⟩:=y2.trk a u q
   rw [y1.new] at e
   cases e
theorem Fl.mv {B h':Heap} {fl':Value} (os:s'.os=s.os) (bare:AllBare s'.gens) (slot: ∀ b o,s.heap.get? b=some o->H b=none->b∈frs l-> ∃ sl,s'.heap.get? b=some {o with slots:=sl}) (hs:HS H H' s.heap)
  (fr:s'.heap.FunFrames B l) (z:Fly B l a (.ref C) fl' h') (y:FlB P w l H s.heap H' B) (u:s'.heap.UpToSlots h'):Fl P w l H s a C fl' H' {s' with heap:=h'}:=by
 refine ⟨os,bare,⟨B,z,y⟩,fun b o e n hb=> ?_,hs⟩
 obtain ⟨sl,e2⟩:=slot b o e n hb
 obtain ⟨_,o2,e3,n3⟩:=fr.mem hb
 rw [e2] at e3
 cases e3
 obtain ⟨sl',e4⟩:=u b _ e2 n3
 exact ⟨sl',e4⟩
section
variable {M:Model} {A:Around} {E:Value->Shared->Prop} {env:Env} {outer:List Env} {L:Addr} {Q:Unit->Shared->Prop}
theorem Fl.note (y:Fl P w (env::outer) H s a C .none H' s') (hfr:A.frames=some (env::outer)) (hf:env.frame=some L) (k: ∀ h',Fl P w (env::outer) H s a C (rawInt L) H' {s' with heap:=h'}->Q () {s' with heap:=h'}):
  wpAny M A (noteFrame (.ref a) env) Q E s':=by
 obtain ⟨B,y1,y2⟩:=y.base
 exact zlx hfr hf y1 fun h' z u=>k h' (Fl.mv y.os y.bare y.slot y.hs y1.frames z y2 u)
theorem Fl.off (y:Fl P w l H s a C fl H' s') (k: ∀ h',Fl P w l H s a C .none H' {s' with heap:=h'}->Q () {s' with heap:=h'}):wpAny M A (setFlight (.ref a) none) Q E s':=by
 obtain ⟨B,y1,y2⟩:=y.base
 exact zeQ y1 fun h' z u=>k h' (Fl.mv y.os y.bare y.slot y.hs y1.frames z y2 fun b o e n=>⟨o.slots,u b o e n⟩)
end
end
structure zfT (X:Cx):Prop where
 stk:X.stack=X.env::X.outer
 frm:X.env.frame=some X.env.locals
 ex:X.ex=[]
theorem zfT.frs {X:Cx} (z:zfT X):frs X.stack=X.env.locals::frs X.outer:=by
 rw [z.stk]
 unfold L2.frs
 rw [qat,z.frm]
section
variable {X:Cx} {pins:List (Addr×Obj)} {σ:St} {H H':Hp} {s s':Shared} {a C:Addr} {M:Model} {E:Value->Shared->Prop} {Q:Unit->Shared->Prop}
theorem Inv.below (I:Inv X pins σ H s) {b:Addr} {o:Obj} (e:X.s₀.heap.get? b=some o):b≠X.env.locals:=qaR (qaw (qaQ e) I.ok.above)
theorem Fl.leave (z:zfT X) (I:Inv X pins σ H s) (y:Fl X.prog X.w X.stack H s a C .none H' s') (k: ∀ s2,Fl X.prog X.w X.outer X.H₀ X.s₀ a C .none H' s2->Q () s2):wpAny M X.A (leaving X.env (.ref a)) Q E s':=by
 have nex: ∀ b,b∉X.ex:=fun b h=>by rw [z.ex] at h;cases h
 obtain ⟨B,y1,y2⟩:=y.base
 have hfr:=I.ok.frames
 rw [z.stk] at hfr y1
 refine zmC hfr z.frm y1 fun h' q u=>k _ ?_
 have nin: ∀ b o,X.s₀.heap.get? b=some o->b∉frs X.outer->b∉frs X.stack:=fun b o e hb hm=>by
  rw [z.frs] at hm
  rcases qaP.mp hm with r | r
  ·exact I.below e r
  ·exact hb r
 refine ⟨y.os.trans I.os,y.bare,⟨B,q,fun b o e hb=> ?_,y2.trk,y2.ok⟩,fun b o e n hb=> ?_,fun b o e n=> ?_,fun b xs e=>y.hs.tups b xs (I.base.tups b xs e),fun b o v e=>y.hs.frzs b o v (I.base.frzs b o v e),fun b ps e=> ?_⟩
 ·obtain ⟨o1,e1⟩:=I.base.there b o e (nex b)
  obtain ⟨o2,e2,q2⟩:=y2.old b o1 e1 (nin b o e hb)
  refine ⟨o2,e2,fun n=> ?_⟩
  have e3:=I.base.keep b o e n hb (nex b)
  rw [e1] at e3
  cases e3
  exact q2 (I.base.free b o e n (nex b))
 ·obtain ⟨sl,e1⟩:=I.base.slot b o e n hb (nex b)
  have hb2:b∈frs X.stack:=by rw [z.frs];exact qan _ hb
  obtain ⟨sl2,e2⟩:=y.slot b _ e1 (I.base.free b o e n (nex b)) hb2
  obtain ⟨_,o3,e3,n3⟩:=y1.frames.mem (by rw [<- z.stk];exact hb2)
  rw [e2] at e3
  cases e3
  obtain ⟨sl4,e4⟩:=u b _ e2 n3
  exact ⟨sl4,e4⟩
 ·obtain ⟨o1,e1⟩:=I.base.there b o e (nex b)
  exact y.hs.free b o1 e1 (I.base.free b o e n (nex b))
 ·obtain ⟨m1,e1⟩:=I.base.tbls b ps e
  obtain ⟨m2,e2⟩:=y.hs.tbls b _ e1
  exact ⟨m1++m2,by rw [e2,Array.append_assoc]⟩
theorem Fl.made {h':Heap} {vs:List Value} (z:zfT X) (I:Inv X pins σ H s) (m:Heap.MadeExcOf s.heap h' a (.ref C) vs) (k: ∀ s2,Fl X.prog X.w X.outer X.H₀ X.s₀ a C .none H s2->Q () s2):wpAny M X.A (leaving X.env (.ref a)) Q E {s with heap:=h'}:=by
 have nex: ∀ b,b∉X.ex:=fun b h=>by rw [z.ex] at h;cases h
 have hfr:=I.ok.frames
 have hl:=I.stack
 have hin: ∀ env∈X.stack, ∀ b,env.frame=some b->b∈frs X.stack:=fun env he b hb=>List.mem_filterMap.mpr ⟨env,he,hb⟩
 have hl2:=W.funFrames_hide hl hin
 have hl3:h'.FunFrames (W.hideAll s.heap (frs X.stack)) X.stack:=hl2.of_keeps fun b o e _=>⟨o,m.keeps b o e,rfl⟩
 have inB: ∀ {b:Addr} {o:Obj},s.heap.get? b=some o->b∉frs X.stack->(W.hideAll s.heap (frs X.stack)).get? b=some o:=fun e n=>W.hideAll_get _ e n
 have ofB: ∀ {b:Addr} {o:Obj},(W.hideAll s.heap (frs X.stack)).get? b=some o->s.heap.get? b=some o:=fun e=>W.of_hideAll _ e
 have trk: ∀ b u,H b=some u->b∉frs X.stack:=fun b u e hm=>by rw [I.stkFree b hm] at e;cases e
 have newB:(W.hideAll s.heap (frs X.stack)).get? a=none:=by
  cases q:(W.hideAll s.heap (frs X.stack)).get? a with
  | none=>rfl
  | some o=>have:=ofB q;rw [m.new] at this;cases this
 have hst:=z.stk
 refine ziN (B:=W.hideAll s.heap (frs X.stack)) (by rw [<- hst];exact hfr) (by rw [<- hst];exact hl3) z.frm (zng m) (fun b o e=>m.keeps b o (ofB e)) newB fun h2 q u=>k _ ?_
 have nin: ∀ b o,X.s₀.heap.get? b=some o->b∉frs X.outer->b∉frs X.stack:=fun b o e hb hm=>by
  rw [z.frs] at hm
  rcases qaP.mp hm with r | r
  ·exact I.below e r
  ·exact hb r
 refine ⟨I.os,I.bare,⟨_,q,fun b o e hb=> ?_,fun b v e=> ?_,fun b v e=> ?_⟩,fun b o e n hb=> ?_,fun b o e n=>I.base.free b o e n (nex b),I.base.tups,I.base.frzs,I.base.tbls⟩
 ·obtain ⟨o1,e1⟩:=I.base.there b o e (nex b)
  refine ⟨o1,inB e1 (nin b o e hb),fun n=> ?_⟩
  have e3:=I.base.keep b o e n hb (nex b)
  rw [e1] at e3
  cases e3
  rfl
 ·obtain ⟨o,e1⟩:=(I.hok b v e).there
  exact ⟨o,inB e1 (trk b v e)⟩
 ·refine (I.hok b v e).stay (fun c o hc e1=>inB e1 ?_) (fun _ r=>r) fun _ _ r=>r
  rcases hc with rfl | hc
  ·exact trk _ v e
  ·exact trk _ _ hc
 ·obtain ⟨sl,e1⟩:=I.base.slot b o e n hb (nex b)
  have hb2:b∈frs X.stack:=by rw [z.frs];exact qan _ hb
  obtain ⟨_,o3,e3,n3⟩:=hl.mem hb2
  rw [e1] at e3
  cases e3
  obtain ⟨sl4,e4⟩:=u b _ (m.keeps b _ e1) n3
  exact ⟨sl4,e4⟩
end
noncomputable def CXE (P:Program) (w:World):CXT:=fun outer H s E e s'=> ∃ a C H',e= .ref a/\Fl P w outer H s a C .none H' s'/\E e (some C) H'
end L2
namespace L3
open PySem PySem.Spec PyProof.Rows L2
def zcS (K:W.Frag) (c:String) (C:Addr):Prop:=W.nsIn K mainGlobals (c:Str)=some (some (.ref C))
noncomputable def znR (K:W.Frag) (E:XE):XK:=fun _ oc H'=> ∃ c C,oc=some C/\zcS K c C/\E c H'
noncomputable def zs3 (K:W.Frag) (E:XK):XE:=fun c H'=> ∀ C v,zcS K c C->E v (some C) H'
def zo1 (X:Cx) (E:XE):Prop:= ∀ (pins:List (Addr×Obj)) (σ:St) (H:Hp) (s:Shared) (h':Heap) (a C:Addr) (c:String) (vs:List Value),Inv X pins σ H s->zcS X.K c C->Heap.MadeExcOf s.heap h' a (.ref C) vs->E c H->X.xe (.ref a) {s with heap:=h'}
section
variable {P:Program} {w:World} {K:W.Frag} {mg:Str->Option Value} {base:Heap} {N:List Str} {qual:Str} {scope:Scope} {f:Addr} {cd:Value} {A:Around} {outer:List Env} {s:Shared} {H:Hp} {E:XK}
theorem zoo:zfT (zib (CXE P w) P w K mg base N qual scope f cd A outer s H E):=⟨rfl,rfl,rfl⟩
theorem zca:zdx (CXE P w) (zib (CXE P w) P w K mg base N qual scope f cd A outer s H E) (znR K (zs3 K E)):=by
 intro pins σ H1 s1 e s2 I h
 obtain ⟨a,C,H2,rfl,y,c,C',e1,hc,he⟩:=h
 cases e1
 exact Fl.leave zoo I y fun s3 y3=>⟨a,C,H2,rfl,y3,he _ _ hc⟩
theorem zgV:zo1 (zib (CXE P w) P w K mg base N qual scope f cd A outer s H E) (zs3 K E):=by
 intro pins σ H1 s1 h' a C c vs I hc m he
 exact Fl.made zoo I m fun s3 y3=>⟨a,C,H1,rfl,y3,he _ _ hc⟩
end
noncomputable def noX {α:Type} (m:M α):M α:=fun h=>match m h with
 | .exc _ _=> .bad
 | r=>r
theorem Fin.noX {α:Type} {K:W.Frag} {E E':XE} {ι:Io} {H:Hp} {m:M α} {h:Hh} {P:α->Io->Hp->Prop} (q:Fin K E ι H (L3.noX m h) P):Fin K E' ι H (m h) P:=by
 unfold L3.noX at q
 cases e:m h with
 | ok a h'=>rw [e] at q;exact q
 | exc c h'=>rw [e] at q;exact qa0 q
 | bad=>rw [e] at q;exact q
noncomputable def spE (K:W.Frag) (n:Nat) (F:List D->M D):Sp:=fun vs H Q E=>vs.length=n/\ ∃ ι h ds,zat K ι H ds vs/\zbg K ι H h/\Fin K (zs3 K E) ι H (F ds h) fun d ι' H'=> ∀ v,Rel K ι' H' d v->Q v H'
section
variable {P:Program} {w:World} {K:W.Frag} {mg:Str->Option Value} {base:Heap}
theorem zdw {x qual:Str} {st:Stmt} {f:Addr} {fd:FuncData} {N ps:List Str} {k:Nat} {G:Sd->M Out} (F:Fun K x qual st f fd) (S:zal N ps (zae st))
  (hb: ∀ (cdv:Value) (A:Around) (outer:List Env) (s:Shared) (H:Hp) (E:XK),zdV k (A.deeper (envOfC qual (zae st) s.heap.objs.size f cdv))->SSs (zib (CXE P w) P w K mg base N qual (zae st) f cdv A outer s H E) (zs3 K E) (zcM st) G):
  zbq P w K mg base (CXE P w) (k+1) f fd ps (spE K ps.length (zb6 N.length G)):=by
 obtain ⟨oc,od,kV,doc,pm,an,cdv,ct,osl,rfl,lk,hcd⟩:=F.ex
 refine zqP lk hcd S (fun vs H Q E h=>h.1) fun A outer s H vs Q E hr ⟨hl,ι,h,ds,rl,hh,q⟩=>⟨_,hb cdv A outer s H E hr,ι,h,zgc N.length ds,zeP rl,hh,?_⟩
 refine Fin.bind q fun o h1 ι1 H1 e1 s1 hr1 q1=> ?_
 cases o with
 | nx sd=>exact fun σ' _=>Fin.out hr1 q1 _ (by simp [Rel])
 | rt d=>exact fun v rv=>Fin.out hr1 q1 v rv
 | bk sd=>exact qa0 q1
 | ct sd=>exact qa0 q1
end
section
variable {X:Cx} {E:XE} {e:Expr} {es:List Expr} {pos p:Pos}
theorem Fin.exmono {α:Type} {K:W.Frag} {E E':XE} {ι:Io} {H:Hp} {r:R α} {P:α->Io->Hp->Prop} (m: ∀ c H',E c H'->E' c H') (q:Fin K E ι H r P):Fin K E' ι H r P:=by
 cases r with
 | ok a h'=>exact q
 | exc c h'=>exact fun ι2 H2 t hr=>m _ _ (q ι2 H2 t hr)
 | bad=>exact q
theorem zns {k:Nat} {f:Addr} {fd:FuncData} {ps:List Str} {n:Nat} {F:List D->M D} {fs:Sd->M (List D)} {x:Str} (G:zbq X.prog X.w X.K X.mg X.base (CXE X.prog X.w) k f fd ps (spE X.K n F)) (hx:zdx (CXE X.prog X.w) X (znR X.K E)) (hr:zdV k X.A) (hg:Gl X x) (hm:X.mg x=some (.ref f)) (hk:W.keepIn X.K (.ref f)=true) (hb:zaJ X.K fd ps [])
  (ha:SA X E (e::es) fs) (hdb:(x==("__debug__":Str))=false:=by decide) (he:starEach (e::es) X.env=(false,eval e X.env)::starEach es X.env:=by rfl) (hpl:(backTo pos (starEach es X.env)).any (·.1)=false:=by rfl):
  SE X E (.Call (.Name x p) (e::es) [] pos) (zaz (zap n F) fs):=by
 refine PE.imp (ziP G hr hg hm hk hb (dvs:=[]) .nil hx ha hdb he hpl) fun σ H Q ⟨ι,h,sd,L,hh,q⟩=>⟨ι,h,sd,L,hh,Fin.bind q fun ds h1 ι1 H1 e1 s1 hr1 q1 vs rv=> ?_⟩
 show spE X.K n F (vs++[]) H1 Q _
 rw [List.append_nil]
 unfold zap at q1
 by_cases hl:ds.length=n
 ·rw [qa4 hl] at q1
  exact ⟨by rw [<- rv.length];exact hl,ι1,h1,ds,rv,hr1,Fin.exmono (fun c H' z C v hc=>⟨c,C,rfl,hc,z⟩) q1⟩
 ·rw [qa5 hl] at q1
  exact qa0 q1
theorem zmP {k:Nat} {f:Addr} {fd:FuncData} {ps:List Str} {n:Nat} {F:List D->M D} {fs:Sd->M (List D)} {x:Str} (G:zbq X.prog X.w X.K X.mg X.base CX0 k f fd ps (zbV X.K n F)) (hr:zdV k X.A) (hg:Gl X x) (hm:X.mg x=some (.ref f)) (hk:W.keepIn X.K (.ref f)=true) (hb:zaJ X.K fd ps [])
  (ha:SA X E (e::es) fs) (hdb:(x==("__debug__":Str))=false:=by decide) (he:starEach (e::es) X.env=(false,eval e X.env)::starEach es X.env:=by rfl) (hpl:(backTo pos (starEach es X.env)).any (·.1)=false:=by rfl):
  SE X E (.Call (.Name x p) (e::es) [] pos) (zaz (zap n fun ds=>noX (F ds)) fs):=by
 refine PE.imp (ziP G hr hg hm hk hb (dvs:=[]) .nil (E:=fun _ _ _=>False) zrF ha hdb he hpl) fun σ H Q ⟨ι,h,sd,L,hh,q⟩=>⟨ι,h,sd,L,hh,Fin.bind q fun ds h1 ι1 H1 e1 s1 hr1 q1 vs rv=> ?_⟩
 show zbV X.K n F (vs++[]) H1 Q _
 rw [List.append_nil]
 unfold zap at q1
 by_cases hl:ds.length=n
 ·rw [qa4 hl] at q1
  exact ⟨by rw [<- rv.length];exact hl,ι1,h1,ds,rv,hr1,Fin.noX q1⟩
 ·rw [qa5 hl] at q1
  exact qa0 q1
end
end L3
namespace L2
open PySem PySem.Spec PyProof.Rows L3
structure zdR (k:Nat) (A:Around):Prop where
 dp:A.depth+3*k+5<recursionLimit
 un:A.units+16*k+200<cLine
theorem zdR.of {k:Nat} {A:Around} (r:zdV k A):zdR k A:=⟨r.dp,r.un⟩
theorem zdR.deeper {k:Nat} {A:Around} (r:zdR (k+1) A) (env:Env):zdR k (A.deeper env):=
 ⟨by have:=r.dp;show A.depth+1+3*k+5<_;omega,by have:=r.un;show A.units+3+16*k+200<_;omega⟩
theorem zdR.mono {j k:Nat} {A:Around} (r:zdR k A) (h:j<=k):zdR j A:=⟨by have:=r.dp;omega,by have:=r.un;omega⟩
structure FnH (P:Program) (w:World) (K:W.Frag) (mg:Str->Option Value) (base:Heap) (k:Nat) (f:Addr) (fd:FuncData) (ps:List Str) (sp:Sp):Prop where
 len: ∀ vs H Q E,sp vs H Q E->vs.length=ps.length
 run: ∀ (A:Around) (outer:List Env) (s:Shared) (H:Hp) (args:Args) (us:List Value) (vs:List V) (Q:VK),zdR k A->znA P w K mg base A outer s H->BindsTo s fd args (ps.zip us)->za7 vs us->sp vs H Q E0->
  codeAny (model P w) A (.call (.ref f) args) (CR CX0 outer P w H s Q E0) s
theorem zsI {P:Program} {w:World} {K:W.Frag} {mg:Str->Option Value} {base:Heap} {k:Nat} {f:Addr} {name qual:Str} {params:Arguments} {body:List Stmt} {scope:Scope} {dV kV doc pm cdv ct oc:Value} {an od:Option Addr}
  {osl:Array (Option Value)} {N ps:List Str} {sp:Sp} (lk:K.lookup f=some ⟨oc,od,.func (W.fnOf name qual params body scope dV kV doc pm an cdv ct),osl⟩) (hcd:W.codeIn K cdv qual=true) (S:zal N ps scope)
  (len: ∀ vs H Q E,sp vs H Q E->vs.length=ps.length)
  (hbody: ∀ (A:Around) (outer:List Env) (s:Shared) (H:Hp) (vs:List V) (Q:VK),zdR k (A.deeper (envOfC qual scope s.heap.objs.size f cdv))->sp vs H Q E0->
    ∃ t,PSs ({zib CX0 P w K mg base N qual scope f cdv A outer s H E0 with calm:=false}:Cx).nox body t/\t {nx:=fun _ H'=>Q .non H',rt:=Q} (zeV N vs) H):
  FnH P w K mg base (k+1) f (W.fnOf name qual params body scope dV kV doc pm an cdv ct) ps sp:=by
 refine ⟨len,fun A outer s H args us vs Q hr e0 hb r hsp=> ?_⟩
 have hl:=len _ _ _ _ hsp
 have KX:K.In s.heap:=e0.mod.kin.keeps fun b o e=>(e0.bs b o e).1
 have lim:s.heap.NoLimit:=e0.mod.nolimit.keeps fun b o e=>(e0.bs b o e).1
 have hkind: ∀ y∈ps.zip us,scope.names.lookup y.1=some .local\/(scope.names.lookup y.1=some .cell/\((cellsFrom (s.heap.objs.size+1) scope.names []).lookup y.1).isSome=true):=fun ⟨n,v⟩ hy=>by
  rcases S.par n (List.of_mem_zip hy).1 with q | q
  ·exact .inl q
  ·exact .inr ⟨q,W.cellsFrom_some _ _ _ (.inl q)⟩
 refine codeAny_call_function (by have:=hr.dp;omega) (KX _ _ lk) rfl S.co S.gen rfl (W.codeRec_of KX hcd) (hb _ _ _ _ ?_)
 refine wpAny_newFunctionEnv_cells S.kind hkind fun env he s1 x=> ?_
 subst he
 refine ⟨lim.keeps x.toInCall.keep,codeAny_func ?_⟩
 obtain ⟨t,ht,hq⟩:=hbody A outer s H vs Q (hr.deeper _) hsp
 have I:Inv {zib CX0 P w K mg base N qual scope f cdv A outer s H E0 with calm:=false} [] (zeV N vs) H s1:=zhD (cm:=false) S (fun z=>by cases z) e0 hl r x
 refine qaZ (ht.nox [] s1 (zeV N vs) H _ I hq) (fun fl s' hs=> ?_) fun e s' hs=>hs
 have fin: ∀ {σ':St} {H':Hp} {v:V} {u:Value},Inv {zib CX0 P w K mg base N qual scope f cdv A outer s H E0 with calm:=false} [] σ' H' s'->zb5 v u->Q v H'->CE outer P w H s Q u s':=
  fun {σ' H' v u} J rv q=>⟨v,H',J.os,J.bare,J.base,J.hok,rv,q⟩
 cases fl with
 | ret u=>
  obtain ⟨v,σ',H',J,rv,q⟩:=hs
  exact fin J rv q
 | next=>
  obtain ⟨σ',H',J,q⟩:=hs
  exact fin (v:=V.non) (u:=Value.none) J rfl q
 | brk=>
  obtain ⟨_,_,_,q⟩:=hs
  exact qa0 q
 | cont=>
  obtain ⟨_,_,_,q⟩:=hs
  exact qa0 q
section
variable {X:Cx} {pins:List (Addr×Obj)} {σ:St} {H H':Hp} {s s':Shared} {a:Addr} {o:Obj}
theorem Inv.track (I:Inv X pins σ H s) (hH:H a=none) (ho:s.heap.get? a=some o) (h0:X.s₀.heap.get? a=none) (hL:a≠X.env.locals) (hc: ∀ x c,X.env.cells.lookup x=some c->c≠a) (hp: ∀ p∈X.pn++pins,p.1≠a):
  Inv X pins σ (upd H a (.frz o (.own 0))) s:=by
 have un: ∀ {b:Addr} {u:HO},H b=some u->upd H a (.frz o (.own 0)) b=some u:=fun e=>by rw [zaF (zaW e hH)];exact e
 refine ⟨I.ok,I.os,I.bare,⟨I.base.keep,I.base.slot,fun b ob e n hx=> ?_,I.base.there,fun b xs e=>un (I.base.tups b xs e),fun b ob u e=>un (I.base.frzs b ob u e),fun b ps e=> ?_⟩,I.loc,I.cell,?_,fun x c e=> ?_,fun p q=> ?_,fun b u e=> ?_,I.len⟩
 ·rw [zaF (fun z=>by subst z;rw [h0] at e;cases e)]
  exact I.base.free b ob e n hx
 ·obtain ⟨m,e1⟩:=I.base.tbls b ps e
  exact ⟨m,un e1⟩
 ·rw [zaF (Ne.symm hL)]
  exact I.free
 ·rw [zaF (hc x c e)]
  exact I.freeC x c e
 ·obtain ⟨e1,e2,e3⟩:=I.pin p q
  exact ⟨e1,by rw [zaF (hp p q)];exact e2,e3⟩
 ·by_cases hb:b=a
  ·subst hb
   rw [zaS] at e
   cases e
   exact ⟨ho,o,ho⟩
  ·rw [zaF hb] at e
   exact (I.hok b u e).stay (fun _ _ _ z=>z) (fun c z=>un z) fun c xs z=>un z
theorem zoQ {M:Model} {A:Around} {E:Value->Shared->Prop} {i:Nat} {x:Str} {pos:Pos} {Q:Unit->Shared->Prop} (I:Inv X pins σ H s) (hN:X.N.Nodup) (hi:X.N[i]? = some x) (hk:X.env.scope.names.lookup x=some .local)
  (h: ∀ s',Inv X pins (σ.set i none) H s'->Q () s'):wpAny M A (do bindName X.env x .none;unbindBehindTheSuite X.env x pos) Q E s:=by
 obtain ⟨m,hn,hl⟩:=id I.loc
 have hcls:(X.env.scope.kind== .class || (X.env.scope.kind== .module && X.env.locals != X.env.globals))=false:=by rw [I.ok.kind];rfl
 have hiσ:i<σ.length:=by rw [I.len];exact (qac.mp hi).1
 have cne:=I.cne
 refine wpAny_nameGoes_keeps hk hn hcls fun h' v hn' hs=> ?_
 obtain ⟨oL,_,_,hoL,_⟩:=id hn
 refine h _ ⟨I.ok,I.os,I.bare,⟨fun b ob e n hb hx=> ?_,fun b ob e n hb hx=> ?_,I.base.free,fun b ob e hx=> ?_,I.base.tups,I.base.frzs,I.base.tbls⟩,⟨_,hn',fun j y v' e1 e2 e3=> ?_⟩,fun y c e=> ?_,I.free,I.freeC,fun p hp=> ?_,fun b ob e=> ?_,by simpa using I.len⟩
 ·exact (hs.2 b (I.below e)).trans (I.base.keep b ob e n hb hx)
 ·obtain ⟨sl,e1⟩:=I.base.slot b ob e n hb hx
  exact ⟨sl,(hs.2 b (I.below e)).trans e1⟩
 ·obtain ⟨o',e1⟩:=I.base.there b ob e hx
  exact ⟨o',(hs.2 b (I.below e)).trans e1⟩
 ·by_cases hj:j=i
  ·subst hj
   rw [qai hiσ] at e2
   cases e2
  ·rw [qao (Ne.symm hj)] at e2
   obtain ⟨u',r',q⟩:=hl j y v' e1 e2 e3
   refine ⟨u',r',?_⟩
   rcases q with ⟨k,e⟩ | ⟨k,c,e,z⟩
   ·refine .inl ⟨k,?_⟩
    have:y≠x:=fun e=>hj (zg4 hN e1 (e▸hi))
    simp [this,e]
   ·exact .inr ⟨k,c,e,z.sameBut hs (cne y c e)⟩
 ·obtain ⟨w',z⟩:=I.cell y c e
  exact ⟨w',z.sameBut hs (cne y c e)⟩
 ·obtain ⟨e,n,ne,nf,d⟩:=I.pin p hp
  exact ⟨(hs.2 p.1 ne).trans e,n,ne,nf,d⟩
 ·refine (I.hok b ob e).stay (fun c w' hc q=>(hs.2 c ?_).trans q) (fun _ q=>q) fun _ _ q=>q
  rintro rfl
  rcases hc with rfl | hc
  ·rw [I.free] at e;cases e
  ·rw [I.free] at hc;cases hc
end
section
variable {X:Cx} {pins:List (Addr×Obj)} {σ:St} {H H':Hp} {s s':Shared} {a C CE:Addr} {ce en:Str} {pce pos:Pos} {b₀:Stmt} {suite:List Stmt} {j:Nat} {Q:Flow->Shared->Prop} {E:Value->Shared->Prop}
theorem Fl.caught (z:zfT X) (I:Inv X pins σ H s) (y:Fl X.prog X.w X.stack H s a C .none H' s') (hN:X.N.Nodup) (hj:X.N[j]? = some en) (hen:X.env.scope.names.lookup en=some .local) (hg:Gl X ce) (hm:X.mg ce=some (.ref CE)) (hx:W.exmOne X.K (.ref C) (.ref CE)=some true)
  (k: ∀ s6,Inv X pins (σ.set j (some (.ref a))) H' s6->(∃ head,zic s6.heap a (.ref C) head)->wpAny (model X.prog X.w) (X.A.mark (some (.ref a))) (execs (b₀::suite) X.env)
    (fun f s4=>wpAny (model X.prog X.w) X.A (do bindName X.env en .none;unbindBehindTheSuite X.env en pos) (fun _ s5=>Q f s5) E s4) (fun _ _=>False) s6) (hd:(ce==("__debug__":Str))=false:=by decide):
  wpAny (model X.prog X.w) X.A (noteFrame (.ref a) X.env) (fun _ s2=>wpAny (model X.prog X.w) X.A (setFlight (.ref a) none) (fun _ s3=>
    wpAny (model X.prog X.w) X.A (handleBy (.ref a) X.env [.ExceptHandler (some (.Name ce pce)) (some en) (b₀::suite) pos]) Q E s3) E s2) E s':=by
 have hfr:=I.ok.frames
 rw [z.stk] at hfr y
 refine y.note hfr z.frm fun h3 y3=> ?_
 refine y3.off fun h4 y4=> ?_
 have ev: ∀ {hp fl},Fl X.prog X.w (X.env::X.outer) H s a C fl H' {s' with heap:=hp}->Inv X pins σ H' {s' with heap:=hp}:=fun {hp fl} y=>by
  have u:=y.un
  rw [<- z.stk] at u
  exact I.call' y.os u y.hok y.bare fun b q=>absurd q (by simp)
 have I4:=ev y4
 obtain ⟨hd4,x4⟩:=y4.exc
 have LT:W.Looks (model X.prog X.w) h4 (typeOf (.ref a)) (.ref C):=by
  obtain ⟨ob,vs,e1,e2,_⟩:=x4
  exact e2▸(W.Looks.ld e1).andThen .now
 refine wpAny_handleBy_cons (codeAny_handlers_test ?_) (by intro q;cases q)
 refine Calls.Name_function_global I4.ok.kind hg (Calls.loadGlobal_global (by rw [I4.ok.glob];exact I4.mod.glob.keeps I4.bk) hm ?_) hd
 refine (W.exm_one I4.kIn LT hx).here ?_
 refine codeAny_handlers_suite_as ?_
 refine y4.off fun h5 y5=> ?_
 have I5:=ev y5
 obtain ⟨hd5,x5⟩:=y5.exc
 have na:a≠X.env.locals/\ ∀ x c,X.env.cells.lookup x=some c->c≠a:=by
  obtain ⟨f1,f2,f3⟩:=y.fresh
  refine ⟨fun q=> ?_,fun x c e q=> ?_⟩
  ·obtain ⟨m,⟨oL,_,_,hoL,_⟩,_⟩:=I.loc
   rw [<- q,f1] at hoL
   cases hoL
  ·obtain ⟨v,oc,hoc,_⟩:=I.cell x c e
   rw [q,f1] at hoc
   cases hoc
 refine zhL I5 hN hj (.inl hen) (v:= .ref a) rfl (fun s6 I6 ⟨b,sb,hb⟩=> ?_) (.inr hen)
 refine qaZ (k s6 I6 ⟨hd5,x5.keep fun ob e=>(sb.2 a fun q=> ?_).trans e⟩) (fun _ _ q=>q) fun _ _ q=>q.elim
 rcases hb with hb | hb
 ·exact na.1 (q.trans hb)
 ·exact na.2 en b hb q.symm
end
noncomputable abbrev zkI:List Value:=[.type "ValueError",.type "Exception",.type "BaseException",.type "object"]
theorem zoH {K:W.Frag} {h:Heap} {mg:Str->Option Value} {x:Str} {C:Addr} {bm:List Value} {nid:String} (X:K.In h) (hm:mg x=some (.ref C)) (q:W.excIn K C bm nid=true):OwnCls x C bm nid mg h:=by
 refine ⟨hm,?_⟩
 unfold W.excIn at q
 split at q
 ·rename_i dd cdt sl lk
  split at q
  ·rename_i C2 tl y0 y1 y2 y3 nn y5 hmro hsl
   simp only [qaG,beq_iff_eq,Bool.not_eq_true'] at q
   obtain ⟨⟨⟨⟨⟨rfl,rfl⟩,q3⟩,q4⟩,q5⟩,q6⟩:=q
   obtain ⟨z1,z2,z3,z4,z5,z6,z7,z8,z9,z10,z11⟩:=cdt
   dsimp only at hmro q3 q5 q6
   subst hmro q3
   obtain rfl:sl= #[y0,y1,y2,y3,some (.builtin nn),y5]:=by
    obtain ⟨ll⟩:=sl
    dsimp only at hsl
    rw [hsl]
   exact ⟨tl,z4,z1,z5,z2,z6,z7,z8,z9,z10,dd,y0,y1,y2,y3,y5,_,X _ _ lk,.of_isNs (W.isNs_of_in X q5),W.nsMap_none_of_in X q5 q6,W.tail_of_in X q4⟩
  ·cases q
 ·cases q
noncomputable def Cx.re (X:Cx) (pn:List (Addr×Obj)) (xe:Value->Shared->Prop):Cx:={X with pn:=pn,xe:=xe}
section
variable {X:Cx} {pins pins':List (Addr×Obj)} {σ:St} {H H':Hp} {s s':Shared} {xe:Value->Shared->Prop}
theorem Inv.re (I:Inv X pins σ H s) (xe:Value->Shared->Prop):Inv (X.re (X.pn++pins) xe) [] σ H s:=
 ⟨⟨I.ok.mod,I.ok.kind,I.ok.glob,I.ok.blt,I.ok.above,I.ok.inj,I.ok.has,I.ok.cab,I.ok.hd,I.ok.hx,I.ok.frames,I.ok.stk,I.ok.exf,I.ok.bs,I.ok.bsz,I.ok.noex,I.ok.exfs,I.ok.funs,I.ok.frf⟩,I.os,I.bare,I.base,I.loc,I.cell,I.free,I.freeC,fun p hp=>I.pin p (by simpa [Cx.re] using hp),I.hok,I.len⟩
theorem Inv.unre (I:Inv (X.re (X.pn++pins) xe) pins' σ H s):Inv X pins σ H s:=
 ⟨⟨I.ok.mod,I.ok.kind,I.ok.glob,I.ok.blt,I.ok.above,I.ok.inj,I.ok.has,I.ok.cab,I.ok.hd,I.ok.hx,I.ok.frames,I.ok.stk,I.ok.exf,I.ok.bs,I.ok.bsz,I.ok.noex,I.ok.exfs,I.ok.funs,I.ok.frf⟩,I.os,I.bare,I.base,I.loc,I.cell,I.free,I.freeC,fun p hp=>I.pin p (List.mem_append_left _ hp),I.hok,I.len⟩
theorem SP.unre {D:zoe} {f:Flow} (h:SP (X.re (X.pn++pins) xe) pins' D f s'):SP X pins D f s':=by
 cases f with
 | next=>obtain ⟨σ',H',I,q⟩:=h;exact ⟨σ',H',I.unre,q⟩
 | brk=>obtain ⟨σ',H',I,q⟩:=h;exact ⟨σ',H',I.unre,q⟩
 | cont=>obtain ⟨σ',H',I,q⟩:=h;exact ⟨σ',H',I.unre,q⟩
 | ret u=>obtain ⟨v,σ',H',I,r,q⟩:=h;exact ⟨v,σ',H',I.unre,r,q⟩
end
end L2
namespace L3
open PySem PySem.Spec PyProof.Rows L2
section
variable {X:Cx} {pins:List (Addr×Obj)} {σ:L2.St} {H:Hp} {s:Shared} {a C:Addr} {o:Obj} {vs:Array Value} {head:Value} {c:String} {gk en pe:Str} {p1 p2 p3:Pos} {j k:Nat} {fk:Addr} {fdk:FuncData} {Fk:List D->M D} {Qv:VK} {ι:Io} {h:Hh}
theorem zkZ (I:Inv X pins σ H s) (hH:H a=none) (ho:s.heap.get? a=some o) (ob:o.cls= .ref C/\o.dict=none/\o.data= .fields vs/\vs[2]? = some .none/\vs[1]? = some head)
  (h0:X.s₀.heap.get? a=none) (hL:a≠X.env.locals) (hcl: ∀ x c,X.env.cells.lookup x=some c->c≠a) (hp: ∀ p∈X.pn++pins,p.1≠a) (hj:X.N[j]? = some en) (hσ:σ[j]? = some (some (.ref a))) (hen:X.env.scope.names.lookup en=some .local)
  (FH:FnH X.prog X.w X.K X.mg X.base k fk fdk [pe] (zbV X.K 1 Fk)) (hb:zaJ X.K fdk [pe] []) (hg:Gl X gk) (hm:X.mg gk=some (.ref fk)) (kp:W.keepIn X.K (.ref fk)=true) (hr:zdR k X.A) (hc:zcS X.K c C) (hh:zbg X.K ι H h)
  (q:Fin X.K E0x ι (upd H a (.frz o (.own 0))) (Fk [.exn c] h) fun d ι' H'=> ∀ v,Rel X.K ι' H' d v->Qv v H') (hd:(gk==("__debug__":Str))=false:=by decide) (hd2:(en==("__debug__":Str))=false:=by decide):
  wpAny (model X.prog X.w) (X.A.mark (some (.ref a))) (eval (.Call (.Name gk p1) [.Name en p2] [] p3) X.env) (fun u s8=> ∃ v H8,Inv X pins σ H8 s8/\zb5 v u/\Qv v H8) (fun _ _=>False) s:=by
 have It:=I.track hH ho h0 hL hcl hp
 have E0':=It.env0
 refine wpAny_Call_Name_kw (Calls.Name_function_global I.ok.kind hg (Calls.loadGlobal_global (by rw [I.ok.glob];exact I.mod.glob.keeps I.bk) hm ?_) hd)
 refine W.callWith_K (h₀:=X.base) I.ok.mod.kin kp ?_
 refine Calls.spliced_cons ?_
 obtain ⟨m,hn,hl⟩:=It.loc
 obtain ⟨u,r,l⟩:=hl j en (.ref a) hj hσ (.inl hen)
 obtain rfl:u=Value.ref a:=r
 have hme:m en=some (.ref a):=by
  rcases l with ⟨_,e⟩ | ⟨e,_⟩
  ·exact e
  ·exfalso
   have e':X.env.scope.names.lookup en=some .cell\/X.env.scope.names.lookup en=some .free:=e
   rw [hen] at e'
   rcases e' with e' | e'<;>cases e'
 refine wpAny_Name (wpAny_loadName_local I.ok.kind hen hn hme ?_) hd2
 refine Calls.spliced_nil ⟨It.kIn,?_⟩
 have e0:znA X.prog X.w X.K X.mg X.base (X.A.mark (some (.ref a))) X.stack s (upd H a (.frz o (.own 0))):=
  ⟨It.ok.frames,E0'.mod,E0'.bs,E0'.bsz,E0'.funs,E0'.frf,E0'.hok,E0'.bare,.inr ⟨a,o,.ref C,head,vs,rfl,zaS,ob⟩⟩
 have sp:zbV X.K 1 Fk [.ref a] (upd H a (.frz o (.own 0))) Qv E0:=
  ⟨rfl,ι,h,[.exn c],zat.cons (by simp only [Rel];exact ⟨a,o,C,head,vs,rfl,⟨zaS,hh.nin hH⟩,hc,ob⟩) zat.nil,hh.laid hH,q⟩
 refine wpAny_call (codeAny_mono (FH.run (X.A.mark (some (.ref a))) X.stack s _ ⟨[.ref a],[]⟩ [.ref a] [.ref a] Qv ⟨hr.dp,hr.un⟩ e0 (hb s [.ref a] It.kIn rfl) (.cons rfl .nil) sp) fun r s' hq=> ?_)
 cases r with
 | error e=>exact qa0 hq
 | ok fl=>
  cases fl with
  | ret u=>exact It.after hq
  | next=>exact qa0 hq
  | brk=>exact qa0 hq
  | cont=>exact qa0 hq
end
noncomputable def ziF (known:List String) (gb:FS) (i:Nat) (Fk:List D->M D):FS:=fun sd h=>match gb sd h with
 | .exc c h1=>if known.contains c=true then (do let d<-noX (Fk [.exn c]);pure (.nx ((List.replicate sd.length none).set i (some d))):M Out) h1 else .bad
 | r=>r
section
variable {X:Cx} {E:XE} {body:List Stmt} {ce en gk pe x:Str} {pce p1 p2 p3 p4 p5 hp pos:Pos} {CE fk:Addr} {fdk:FuncData} {Fk:List D->M D} {gb:FS} {j k i:Nat} {known:List String}
theorem zmF {st:Stmt} {fin:Sd->D->M Out} {gt:FS} (hgt: ∀ sd h,gt sd h=match gb sd h with
      | .exc c h1=>if known.contains c=true then (do let d<-noX (Fk [.exn c]);fin sd d:M Out) h1 else .bad
      | r=>r)
  (z:zfT X) (hN:X.N.Nodup) (hj:X.N[j]? = some en) (hen:X.env.scope.names.lookup en=some .local) (hg:Gl X ce) (hm:X.mg ce=some (.ref CE))
  (hkn: ∀ c∈known, ∀ C,zcS X.K c C->W.exmOne X.K (.ref C) (.ref CE)=some true) (hd:(ce==("__debug__":Str))=false)
  (hb: ∀ pn xe E',zdx (CXE X.prog X.w) (X.re pn xe) (znR X.K E')->SSs (X.re pn xe) E' body gb)
  (hst: ∀ (X':Cx) (pins:List (Addr×Obj)) (σ:L2.St) (H:Hp) (s:Shared) (a:Addr) (D0:zoe) (sd:Sd) (Q:Flow->Shared->Prop) (Ef:Value->Shared->Prop) (pn:List (Addr×Obj)) (xe:Value->Shared->Prop),X'=X.re pn xe->Inv X' pins (σ.set j (some (.ref a))) H s->sd.length=X.N.length->
    (∀ Qv:VK,(∀ d ι' H' h',zbg X.K ι' H' h'->Fin X.K E ι' H' (fin sd d h') (zha X.K D0)-> ∀ v,Rel X.K ι' H' d v->Qv v H')->
      wpAny (model X.prog X.w) (X.A.mark (some (.ref a))) (eval (.Call (.Name gk p1) [.Name en p2] [] p3) X.env) (fun u s8=> ∃ v H8,Inv X' pins (σ.set j (some (.ref a))) H8 s8/\zb5 v u/\Qv v H8) (fun _ _=>False) s)->
    (∀ f s9,SP X' pins D0 f s9->Q f s9)->
    wpAny (model X.prog X.w) (X.A.mark (some (.ref a))) (execs [st] X.env) (fun f s4=>wpAny (model X.prog X.w) X.A (do bindName X.env en .none;unbindBehindTheSuite X.env en hp) (fun _ s5=>Q f s5) Ef s4) (fun _ _=>False) s)
  (FH:FnH X.prog X.w X.K X.mg X.base k fk fdk [pe] (zbV X.K 1 Fk)) (hbk:zaJ X.K fdk [pe] []) (hgk:Gl X gk) (hmk:X.mg gk=some (.ref fk)) (kp:W.keepIn X.K (.ref fk)=true) (hr:zdR k X.A) (hd2:(gk==("__debug__":Str))=false) (hd3:(en==("__debug__":Str))=false):
  SS X E (.Try body [.ExceptHandler (some (.Name ce pce)) (some en) [st] hp] [] [] pos) gt:=by
 intro pins s σ H D0 I ⟨ι,h,sd,L,hh,q⟩
 refine wpAny_Try_except ?_
 rw [hgt] at q
 let xe':Value->Shared->Prop:=fun e s₁=>wpAny (model X.prog X.w) X.A (noteFrame e X.env) (fun _ s₂=>wpAny (model X.prog X.w) X.A (setFlight e none) (fun _ s₃=>wpAny (model X.prog X.w) X.A (handleBy e X.env [.ExceptHandler (some (.Name ce pce)) (some en) [st] hp]) (SP X pins D0) X.xe s₃) X.xe s₂) X.xe s₁
 cases hres:gb sd h with
 | bad=>rw [hres] at q;exact qa0 q
 | ok o1 h1=>
  rw [hres] at q
  have run:=hb (X.pn++pins) xe'
   E0x (fun pins' σ' H1 s1 e s2 I1 hx=>by obtain ⟨a,C,H2,_,_,c,C',_,_,w⟩:=hx;exact w.elim) [] s σ H D0 (I.re _) ⟨ι,h,sd,L,hh,by rw [hres];exact q⟩
  refine qaZ run (fun f s1 hs=> ?_) fun _ _ w=>w
  have hs':=hs.unre
  cases f with
  | next=>exact wpAny_execs_nil hs'
  | ret u=>exact hs'
  | brk=>exact hs'
  | cont=>exact hs'
 | exc c h1=>
  rw [hres] at q
  by_cases hk:known.contains c=true
  ·simp only [hk,if_true] at q
   have run:=hb (X.pn++pins) xe'
    (fun c' H'=>c'=c/\ ∃ ι',zch ι H ι' H'/\zbg X.K ι' H' h1) (fun pins' σ' H1 s1 e s2 I1 hx=>by
      obtain ⟨a,C,H2,rfl,y,c',C',e1,hc,rfl,ι',st1,hr1⟩:=hx
      cases e1
      have z':zfT (X.re (X.pn++pins) xe'):=⟨z.stk,z.frm,z.ex⟩
      obtain ⟨f1,f2,f3⟩:=y.fresh
      refine Fl.caught (X:=X.re (X.pn++pins) xe') (b₀:=st) (suite:=[]) (pce:=pce) (pos:=hp) (Q:=SP X pins D0) (E:=X.xe) z' I1 y hN hj hen hg hm (hkn c' (by simpa using hk) C hc) (fun s6 I6 ⟨head,x6⟩=> ?_) hd
      obtain ⟨o,vs,ho,ob⟩:=x6
      have hnil: ∀ b,b∉X.ex:=fun b h=>by rw [z.ex] at h;cases h
      refine hst _ pins' σ' H2 s6 a D0 sd (SP X pins D0) X.xe _ _ rfl I6 (L.1.trans I.len) (fun Qv hQ=> ?_) fun f s9 w=>w.unre
      have hσ:(σ'.set j (some (V.ref a)))[j]? = some (some (.ref a)):=qai (by rw [I1.len];exact (qac.mp hj).1)
      refine zkZ (X:=X.re _ _) I6 f2 ho ob ?_ (fun w=> ?_) (fun x c e w=> ?_) (fun p hp w=> ?_) hj hσ hen FH hbk hgk hmk kp hr hc hr1 ?_ hd2 hd3
      · cases w:X.s₀.heap.get? a with
        | none=>exact w
        | some ob=>
          obtain ⟨o',e'⟩:=I1.base.there a ob w (hnil a)
          rw [f1] at e'
          cases e'
      · obtain ⟨m,⟨oL,_,_,hoL,_⟩,_⟩:=I1.loc
        have hoL:s1.heap.get? X.env.locals=some oL:=hoL
        rw [<- show a=X.env.locals from w,f1] at hoL
        cases hoL
      · obtain ⟨v,oc,hoc,_⟩:=I1.cell x c e
        rw [w,f1] at hoc
        cases hoc
      · have e:=(I1.pin p hp).1
        rw [w,f1] at e
        cases e
      · have q1:=Fin.step (st1.trans (hr1.laidS (o:= .frz o (.own 0)) f2)) q
        exact Fin.noX (Fin.bind q1 fun d h' ι8 H8 e8 s8 hr8 q8 v rv=>hQ d ι8 H8 h' hr8 q8 v rv))
    [] s σ H {nx:=fun _ _=>False,rt:=fun _ _=>False} (I.re _) ⟨ι,h,sd,L,hh,by rw [hres];exact fun ι' H' st1 hr1=>⟨rfl,ι',st1,hr1⟩⟩
   refine qaZ run (fun f s1 hs=> ?_) fun _ _ w=>w
   cases f with
   | next=>obtain ⟨_,_,_,w⟩:=hs;exact w.elim
   | brk=>obtain ⟨_,_,_,w⟩:=hs;exact w.elim
   | cont=>obtain ⟨_,_,_,w⟩:=hs;exact w.elim
   | ret u=>obtain ⟨_,_,_,_,_,w⟩:=hs;exact w.elim
  ·simp only [hk] at q
   exact qa0 q
theorem zrU (z:zfT X) (hN:X.N.Nodup) (hj:X.N[j]? = some en) (hen:X.env.scope.names.lookup en=some .local) (hi:X.N[i]? = some x) (hx:X.env.scope.names.lookup x=some .local) (hij:j≠i) (hg:Gl X ce) (hm:X.mg ce=some (.ref CE))
  (hkn: ∀ c∈known, ∀ C,zcS X.K c C->W.exmOne X.K (.ref C) (.ref CE)=some true)
  (hb: ∀ pn xe E',zdx (CXE X.prog X.w) (X.re pn xe) (znR X.K E')->SSs (X.re pn xe) E' body gb)
  (FH:FnH X.prog X.w X.K X.mg X.base k fk fdk [pe] (zbV X.K 1 Fk)) (hbk:zaJ X.K fdk [pe] []) (hgk:Gl X gk) (hmk:X.mg gk=some (.ref fk)) (kp:W.keepIn X.K (.ref fk)=true) (hr:zdR k X.A)
  (hd:(ce==("__debug__":Str))=false:=by decide) (hd2:(gk==("__debug__":Str))=false:=by decide) (hd3:(en==("__debug__":Str))=false:=by decide)
  (hs:swapsWith (.Call (.Name gk p1) [.Name en p2] [] p3) (some (.Name x p5)) p4.line X.env=pure false:=by rfl):
  SS X E (.Try body [.ExceptHandler (some (.Name ce pce)) (some en) [.Assign [.Name x p5] (.Call (.Name gk p1) [.Name en p2] [] p3) p4] hp] [] [] pos) (ziF known gb i Fk):=by
 refine zmF (fin:=fun sd d=>pure (.nx ((List.replicate sd.length none).set i (some d)))) (p1:=p1) (p2:=p2) (p3:=p3) (fun sd h=>rfl) z hN hj hen hg hm hkn hd hb (fun X' pins σ H s a D0 sd Q Ef pn xe hX I6 hl ev hQ=> ?_) FH hbk hgk hmk kp hr hd2 hd3
 subst hX
 refine wpAny_execs_cons ?_
 refine wpAny_Assign_Name (qaZ (ev (fun v H'=> ∀ σ9:L2.St,σ9.length=X.N.length->σ9[i]? = some (some v)->D0.nx σ9 H') fun d ι' H' h' hr1 q v rv σ9 l9 e9=> ?_) (fun u s8 hv=> ?_) fun _ _ w=>w) hs
 ·have q1:=Fin.out hr1 q
  refine q1 σ9 ⟨by rw [qaI,List.length_replicate,hl,l9],fun n d' e=> ?_⟩
  by_cases hn:i=n
  ·subst hn
   by_cases hlt:i<sd.length
   ·rw [qai (by rw [List.length_replicate];exact hlt)] at e
    cases e
    exact ⟨v,e9,rv⟩
   ·rw [List.getElem?_eq_none (by rw [qaI,List.length_replicate];omega)] at e
    cases e
  ·rw [qao hn,List.getElem?_replicate] at e
   split at e<;>cases e
 ·obtain ⟨v,H8,I8,rv,qv⟩:=hv
  refine zfg (X:=X.re pn xe) I8 hN hi (.inl hx) rv (fun s9 I9=> ?_) (.inr hx)
  refine wpAny_execs_nil ?_
  refine zoQ (X:=X.re pn xe) I9 hN hj hen fun s10 I10=>hQ _ s10 ⟨_,H8,I10,qv _ ?_ ?_⟩
  ·exact I10.len
  ·rw [qao hij]
   exact qai (by rw [qaI];have:=I9.len;rw [qaI,qaI] at this;rw [this];exact (qac.mp hi).1)
noncomputable def zgg (c:String):FS:=fun _ h=> .exc c h
theorem zpN {c:String} {C:Addr} {nid:String} {msg:Str} {jj:Nat} {np cpos:Pos} (hc:X.calm=true) (hp:zo1 X E) (hX:W.excIn X.K C zkI "ValueError.__new__"=true) (hcl:zcS X.K c C) (hg:Gl X (c:Str)) (hd:((c:Str)==("__debug__":Str))=false:=by decide):
  SS X E (.Raise (some (.Call (.Name (c:Str) np) [.Constant (.str msg) jj p2] [] cpos)) none pos) (zgg c):=by
 intro pins s σ H D0 I ⟨ι,h,sd,L,hh,q⟩
 have hE:E c H:=q ι H (zch.refl _ _) hh
 have hm:X.mg (c:Str)=some (.ref C):=W.mg_of I.ok.mod.kin I.ok.mod.glob hcl
 obtain ⟨tl,N,nm,qq,bs,hdct,sn,sub,ab,col,dd,k0,k1,k2,k3,k5,mN,hC,hNs,hni,T⟩:=(zoH (x:=(c:Str)) I.ok.mod.kin hm hX).obj
 refine wpAny_Raise_call_subT (C:=C) (nm:=nm) (q:=qq) (N:=N) (bs:=bs) (bm:=tl) (hdct:=hdct) (sn:=sn) (sub:=sub) (ab:=ab) (col:=col) (dd:=dd) (k0:=k0) (k1:=k1) (k2:=k2) (k3:=k3) (k5:=k5)
  PySem.F.excBase_ValueError (mN:=mN) (T.hasType PySem.F.excBase_ValueError.hasBase) (I.ok.hd hc) rfl hni (ziS I hg hm ⟨rfl,?_⟩ hd)
 refine Calls.evalArgs_plain (x:=eval (.Constant (.str msg) jj p2) X.env) (rest:=[]) ?_
 refine Calls.spliced_cons (thn (zn0 pins s σ H (fun v H1=>H1=H) I rfl) fun u s1 hu=> ?_)
 obtain ⟨v,H1,I1,rv,rfl⟩:=hu
 refine Calls.spliced_nil ⟨rfl,by show 1<=sizeLine;decide,I1.bk _ _ hC,hNs.keeps I1.bk,T.keeps I1.bk,fun h' e m=> ?_⟩
 exact hp pins σ H1 s1 h' e C c _ I1 hcl m hE
end
end L3
namespace L3
open PySem PySem.W
theorem zhj {K:Frag} {C:Addr} {name:Str} {a g:Value} (hc:(clsIn K C).isSome=true) (ha:findIn K (.ref C) name=some (some a)) (hg:specialIn K a "__get__"=some (some g)) (ht:takesIn K a=some true):findObj K C none name=some (.bind g a):=by
 obtain ⟨cd,hc⟩:=Option.isSome_iff_exists.mp hc
 unfold findObj
 rw [hc,Option.bind_some,ha,Option.bind_some]
 simp [hg,ht]
section
variable {prog:Program} {w:World} {A:Around} {E:Value->Shared->Prop} {s:Shared} {K:Frag} {x D:Addr} {ox:Obj}
theorem zlB {Q:Option Value->Shared->Prop} (X:K.In s.heap) (I:InstAt s.heap x ox D none) (hc:(clsIn K D).isSome=true) (hga:findIn K (.ref D) "__getattribute__"=some (some (.builtin "BaseException.__getattribute__"))) (hk:findIn K (.ref D) "__getattr__"=some none)
  (ha:findIn K (.ref D) "__class__"=some (some (.builtin "object.__class__"))) (hn:specialIn K (.builtin "object.__class__") "__get__"=some (some (.builtin "getset_descriptor.__get__"))) (htk:takesIn K (.builtin "object.__class__")=some true)
  (hm:mroIn K D (.type "object")=some true) (hmB:mroIn K D (.type "BaseException")=some true) (h:Q (some (.ref D)) {s with toks:=s.toks+1}):wpAny (model prog w) A (getAttr? (.ref x) "__class__") Q E s:=by
 obtain ⟨hh,g,d,t,os⟩:=s
 have L0:=I.type (M:=model prog w)
 have L1:=looks_findIn (M:=model prog w) X hga
 have L2:=looks_findIn (M:=model prog w) X hk
 have L3:=looks_find (M:=model prog w) X I (zhj hc ha hn htk)
 have LB:Looks (model prog w) hh (isInstance (.ref x) (.type "BaseException")) true:=L0.andThen (looks_mroIn X hmB)
 have f3:=PySem.F.attr_ValueError.ga.bind (.ref x)
 have hx2:(Value.builtin "BaseException.__getattribute__"==Value.builtin "object.__getattribute__")=false:=by decide +kernel
 unfold getAttr? getAttrBy? getAttrBy
 refine qaW (wpAny_mkText (qaW (wpAny_attempt (qaO (qaW (L0.at (qaW (L1.at ?_))))))))
 dsimp only
 rw [hx2,Bool.and_false,qa5 Bool.false_ne_true]
 unfold getAttrByItsOwn hookBefore
 rw [qa4 (show onTheHeap (Value.ref D)=true from rfl)]
 refine qaW (L2.at ?_)
 refine qaW (wpAny_attempt (qaO ?_))
 unfold callGetattribute
 rw [qa5 (by simp)]
 unfold boundAndCalled
 rw [f3]
 refine qaW (qaX ?_)
 refine wpAny_call (codeAny_call_builtin PySem.F.attr_ValueError.ga.plain PySem.F.entry_bexc_ga ?_)
 have kd:builtinKind "BaseException.__getattribute__"=some .slot:=by decide +kernel
 have sp:splitId "BaseException.__getattribute__"=some ("BaseException","__getattribute__"):=by decide +kernel
 have ag:=PySem.F.args_bexc_ga (.ref x) (.str "__class__" t)
 simp only [checkBuiltinCall,kd,sp]
 refine qaW (LB.at ?_)
 rw [qa5 (by decide)]
 refine wpAny_of_eq (a:=()) ag ?_
 unfold Builtin.«object.__getattribute__»
 refine qaW (qaX ?_)
 refine qaW (qaX ?_)
 refine qaW (L0.at ?_)
 refine qaW (L3.at ?_)
 dsimp only
 unfold Builtin.ObjectAttr.bindTo
 dsimp only
 refine qaW (qaO (wpAny_call (class_get (s:=⟨hh,g,d,t+1,os⟩) X I hm ?_)))
 refine qaX ?_
 dsimp only
 refine wpAny_of_eq (a:=Value.ref D) rfl ?_
 exact qaX h
end
end L3
namespace L3
open PySem PySem.Spec PyProof.Rows L2
noncomputable def kxb (K:W.Frag) (C:Addr):Bool:=(W.clsIn K C).isSome && W.findIn K (.ref C) "__getattribute__"==some (some (.builtin "BaseException.__getattribute__")) && W.findIn K (.ref C) "__getattr__"==some none && W.findIn K (.ref C) "__class__"==some (some (.builtin "object.__class__"))
 && W.specialIn K (.builtin "object.__class__") "__get__"==some (some (.builtin "getset_descriptor.__get__")) && W.takesIn K (.builtin "object.__class__")==some true && W.mroIn K C (.type "object")==some true && W.mroIn K C (.type "BaseException")==some true
theorem zm1 {K:W.Frag} {x C:Addr} {ox:Obj} (h:kxb K C=true):W.KitX K (.ref x) (.ref C) (fun h=>W.InstAt h x ox C none):=by
 unfold kxb at h
 simp only [qaG,beq_iff_eq] at h
 obtain ⟨⟨⟨⟨⟨⟨⟨h1,h2⟩,h3⟩,h4⟩,h5⟩,h6⟩,h7⟩,h8⟩:=h
 refine ⟨fun _ _ _ I=>I.type,fun M hp X _=> ?_,fun hp tp dd its n sl X htp=> ?_,fun X I k=>zlB X I h1 h2 h3 h4 h5 h6 h7 h8 k⟩
 ·obtain ⟨cd,hc⟩:=Option.isSome_iff_exists.mp h1
  unfold W.clsIn at hc
  split at hc
  ·rename_i lk
   intro A' Q' E' s' k q
   unfold isType loadHead
   exact qaW (wpAny_loadPart (k _ _ (X _ _ lk)) (qaX q))
  ·cases hc
 ·refine Bool.eq_false_iff.mpr fun q=> ?_
  have e:C=tp:=Value.ref.inj (beq_iff_eq.mp q)
  subst e
  obtain ⟨cd,hc⟩:=Option.isSome_iff_exists.mp h1
  unfold W.clsIn at hc
  split at hc
  ·rename_i lk
   have z:=(X _ _ lk).symm.trans htp
   cases z
  ·cases hc
structure ztr (K:W.Frag) (CE:Addr) (names:List String) (c:String) (C:Addr):Prop where
 exc:W.excIn K C zkI "ValueError.__new__"=true
 cov:W.exmOne K (.ref C) (.ref CE)=some true
 kx:kxb K C=true
 ve:W.kitOne K (.ref C) (.type "ValueError")=some true
 one: ∀ c'∈names, ∀ C',zcS K c' C'->W.kitOne K (.ref C) (.ref C')=some (c==c')
def zmq (K:W.Frag) (CE:Addr) (names:List String):Prop:= ∀ c∈names, ∀ C,zcS K c C->ztr K CE names c C
noncomputable def zkO (K:W.Frag) (CE:Addr) (tab:List (String×Addr)):Bool:=tab.all fun p=>W.nsIn K mainGlobals (p.1:Str)==some (some (.ref p.2)) && W.excIn K p.2 zkI "ValueError.__new__" && W.exmOne K (.ref p.2) (.ref CE)==some true && kxb K p.2 && W.kitOne K (.ref p.2) (.type "ValueError")==some true
 && tab.all fun r=>W.kitOne K (.ref p.2) (.ref r.2)==some (p.1==r.1)
theorem zmq.of {K:W.Frag} {CE:Addr} {tab:List (String×Addr)} (h:zkO K CE tab=true):zmq K CE (tab.map (·.1)):=by
 unfold zkO at h
 rw [List.all_eq_true] at h
 have key: ∀ c∈tab.map (·.1), ∀ C,zcS K c C->(c,C)∈tab:=fun c hc C hC=>by
  obtain ⟨p,hp,rfl⟩:=qaU.mp hc
  have h1:=h p hp
  simp only [qaG,beq_iff_eq] at h1
  have e:=h1.1.1.1.1.1
  unfold zcS at hC
  rw [hC] at e
  cases e
  exact hp
 intro c hc C hC
 have h1:=h _ (key c hc C hC)
 simp only [qaG,beq_iff_eq,List.all_eq_true] at h1
 obtain ⟨⟨⟨⟨⟨a1,a2⟩,a3⟩,a4⟩,a5⟩,a6⟩:=h1
 exact ⟨a2,a3,a4,a5,fun c' hc' C' hC'=>a6 _ (key c' hc' C' hC')⟩
theorem zmq.known {K:W.Frag} {CE:Addr} {names:List String} (h:zmq K CE names): ∀ c∈names, ∀ C,zcS K c C->W.exmOne K (.ref C) (.ref CE)=some true:=fun c hc C hC=>(h c hc C hC).cov
noncomputable def zor (names:List String) (T:String):D->M D
 | .exn c=>if names.contains c && names.contains T then pure (.bl (c==T)) else M.bad
 | _=>M.bad
section
variable {X:Cx} {E:XE}
theorem znj:za0 X (.builtin "isinstance") (fun xs H Q=> ∃ a o C vs x u b,xs=[.ref a,x]/\H a=some (.frz o (.own 0))/\(o.cls= .ref C/\o.dict=none/\o.data= .fields vs)/\kxb X.K C=true/\zb5 x u/\(∀ u',zb5 x u'->u'=u)/\W.kitOne X.K (.ref C) u=some b/\Q (.bl b) H):=by
 intro pins s σ H xs us Q I r h
 obtain ⟨a,o,C,vs,x,u,b,rfl,hH,⟨o1,o2,o3⟩,hk,hu,hu2,e,q⟩:=h
 cases r with
 | cons r1 r2=>
  cases r2 with
  | cons r3 r4=>
   cases r4
   cases r1
   have:=hu2 _ r3
   subst this
   have ho:=(I.hok a _ hH).1
   refine W.kia_one (zm1 (x:=a) (ox:=o) hk) I.kIn ⟨ho,o1,by unfold W.notCls;rw [o3],by rw [o2];trivial⟩ e (fun z=>nomatch z) fun tk=>⟨.bl b,H,I.tok tk,rfl,q⟩
variable {a:Expr} {p1 p2 pos:Pos} {fa:FE} {CE CC:Addr} {names:List String}
theorem zif {c':String} (hx:zmq X.K CE names) (hc':names.contains c'=true) (hcl:zcS X.K c' CC) (hm:X.mg "isinstance"=none) (hmC:X.mg (c':Str)=some (.ref CC)) (ha:SE X E a fa) (hg:Gl X "isinstance":=by rfl) (hgC:Gl X (c':Str):=by rfl)
  (hd:((c':Str)==("__debug__":Str))=false:=by decide)
  (h1:starEach [a,.Name (c':Str) p2] X.env=(false,eval a X.env)::starEach [.Name (c':Str) p2] X.env:=by rfl) (h2:starEach [.Name (c':Str) p2] X.env=[(false,eval (.Name (c':Str) p2) X.env)]:=by rfl)
  (hpl:(backTo pos (starEach [.Name (c':Str) p2] X.env)).any (·.1)=false:=by rfl):
  SE X E (.Call (.Name "isinstance" p1) [a,.Name (c':Str) p2] [] pos) (cUn (zor names c') fa):=by
 refine PE.imp (ze9 znj hg hm PyProof.Rows.boot_isinstance (zbs ha (zbs (zkz (v:= .ref CC) hgC hmC rfl hd) zcs h2) h1) (he:=h1) (hpl:=hpl)) fun σ H Q ⟨ι,h,sd,L,hh,q⟩=>⟨ι,h,sd,L,hh,Fin.bind q fun d h1 ι1 H1 e1 s1 hr1 q1 v rv=> ?_⟩
 cases d with
 | exn c=>
  obtain ⟨hg1,q2⟩:=Fin.guard (show Fin X.K E ι1 H1 ((if (names.contains c && names.contains c')=true then (pure (.bl (c==c')):M D) else M.bad) h1) _ from q1)
  rw [qaG] at hg1
  simp only [Rel] at rv
  obtain ⟨b,o,C,head,vs,rfl,⟨r1,_⟩,r2,r3,r4,r5,_⟩:=rv
  have ok:=hx c (by simpa using hg1.1) C r2
  exact ⟨b,o,C,vs,.ref CC,.ref CC,c==c',rfl,r1,⟨r3,r4,r5⟩,ok.kx,rfl,fun u' z=>z,ok.one c' (by simpa using hc') CC hcl,Fin.out hr1 q2 _ (by simp [Rel])⟩
 | _=>exact qa0 q1
end
end L3
namespace L3
open PySem
section
variable {prog:Program} {w:World} {A:Around} {E:Value->Shared->Prop} {s:Shared}
end
end L3
namespace L2
open PySem PySem.Spec PyProof.Rows L3
section
variable {X:Cx}
theorem zj3:MtM X "list.extend" (fun x vs H Q=> ∃ l b xs zs,x= .ref l/\vs=[.ref b]/\H l=some (.lst xs)/\SqT X.K H b zs/\xs.length+zs.length<=sizeLine/\Q .non (upd H l (.lst (xs++zs)))):=by
 intro pins s σ H x vs v us Q I rx rv h
 obtain ⟨l,b,xs,zs,rfl,rfl,hH,hB,hz,q⟩:=h
 cases rx
 obtain ⟨u,rfl,ru⟩:=zeO rv
 cases ru
 obtain ⟨z,its,n,r,hl,e⟩:=I.lstM hH
 obtain ⟨its2,r2,⟨ob,e2,c2,n2,d2⟩,z2⟩:=I.tuple hB
 have l2:=r2.length
 have hsz:its.toArray.size+its2.toArray.size<=sizeLine:=by rw [qaA,qaA];omega
 refine wpAny_call (codeAny_call_builtin F.slot_list_extend.plain F.entry_list_extend (F.slot_list_extend.check _ _ _ _ _ _ _ _ ⟨_,e,rfl⟩ (F.args_list_extend_2 _ _) ?_))
 unfold Builtin.«list.extend»
 refine qaW (qaX ?_)
 unfold Builtin.List.listExtendWith
 refine qaW (wpAny_typeOf ⟨ob,e2,c2⟩ ?_)
 have h1:(Builtin.List.listSameRef (.ref l) (.ref b) || Value.type "tuple"==Value.type "list" || Value.type "tuple"==Value.type "tuple")=true:=by simp
 simp only [h1,if_true]
 unfold Builtin.List.listItems
 refine qaW (qaW (wpAny_seqItems e2 d2 (qaX ?_)))
 refine qaW (qaW (wpAny_seqItems e rfl (qaX ?_)))
 rw [qa5 (by rw [znn hsz,Bool.and_false];exact Bool.false_ne_true)]
 refine qaW (wpAny_updateSeq e rfl ?_ (by rw [qaA];omega))
 refine qaX ?_
 refine ⟨.non,_,I.lset (its':=its++its2) hH e (by simp) (r.append r2) ?_,rfl,q⟩
 rw [qav]
 omega
theorem zgw: ∀ {bs:List Bool} {its:List Value},za7 (bs.map V.bl) its->its=bs.map Value.bool
 | [],_,h=>by cases h;rfl
 | b::bs,_,h=>by
  cases h with
  | cons r t=>cases r;rw [zgw t];rfl
theorem zkt:MtR X "list.index" (fun x vs H Q=> ∃ (l:Addr) (bs:List Bool) (j:Nat),x= .ref l/\vs=[.bl true]/\SqL X.K H l (bs.map V.bl)/\bs[j]? = some true/\(∀ m,m<j->bs[m]? = some false)/\Q (.int (j:Int)) H):=by
 intro pins s σ H x vs v us Q I rx rv h
 obtain ⟨l,bs,j,rfl,rfl,hq,hj,hno,q⟩:=h
 cases rx
 obtain ⟨u,rfl,ru⟩:=zeO rv
 cases ru
 obtain ⟨its,r,pl,hz⟩:=I.list hq
 have eit:=zgw r
 subst eit
 obtain ⟨ob,e1,c1,n1,d1⟩:=pl.isList
 obtain ⟨cc,dd,dt,sl⟩:=ob
 dsimp only at c1 d1
 subst c1 d1
 have hlt:j<bs.length:=(qac.mp hj).1
 rw [qaH] at hz
 have sz:(j:Int)<2^63 - 1:=by
  have:sizeLine<2^40:=by decide
  omega
 refine call_meets F.slot_list_index ⟨_,e1,rfl⟩ F.entry_list_index (F.args_list_index_2 _ _)
  (PySem.SeqAt.list_indexAt l _ n1 dd sl (.bool true) (fun v=>match v with | .bool b=>b | _=>false) j (by simpa using hlt) sz ?_ ?_) ⟨e1,fun y hy=> ?_,⟨.int j,H,I.tok _,⟨_,rfl⟩,q⟩⟩
 ·have:=(qac.mp hj).2
  simp [this]
 ·intro m hm hmj
  have:=(qac.mp (hno m hmj)).2
  simp [this]
 ·obtain ⟨b,_,rfl⟩:=qaU.mp (List.mem_toArray.mp hy)
  have:=PySem.SeqAt.EqAt.bool_bool (A:=X.A.in1) (s:=s) b true
  simpa using this
end
end L2
namespace L3
open PySem PySem.Spec PyProof.Rows L2
noncomputable def zuN (f:FE):FE:=fun sd=>noX (f sd)
noncomputable def zs6 (f:FS):FS:=fun sd=>noX (f sd)
theorem zie {X:Cx}:zdx (CXE X.prog X.w) X (znR X.K E0x):=fun _ _ _ _ _ _ _ h=>by
 obtain ⟨_,_,_,_,_,_,_,_,_,z⟩:=h
 exact z.elim
section
variable {X:Cx} {E:XE} {a e o:Expr} {es:List Expr} {pos p cpos apos:Pos} {f fo fe fa:FE} {fs:FA} {x:Str}
theorem zbF {k:Nat} {g:Addr} {fd:FuncData} {ps:List Str} {n:Nat} {F:List D->M D} (G:zbq X.prog X.w X.K X.mg X.base (CXE X.prog X.w) k g fd ps (spE X.K n F)) (hx:zdx (CXE X.prog X.w) X (znR X.K E)) (hr:zdV k X.A) (hm:X.mg x=some (.ref g)) (hk:W.keepIn X.K (.ref g)=true) (hb:zaJ X.K fd ps [])
  (ha:SA X E (e::es) fs) (hg:Gl X x:=by rfl) (hdb:(x==("__debug__":Str))=false:=by decide) (he:starEach (e::es) X.env=(false,eval e X.env)::starEach es X.env:=by rfl) (hpl:(backTo pos (starEach es X.env)).any (·.1)=false:=by rfl):
  SE X E (.Call (.Name x p) (e::es) [] pos) (zaz (zap n F) fs):=zns G hx hr hg hm hk hb ha hdb he hpl
theorem zcb {k:Nat} {g:Addr} {fd:FuncData} {ps:List Str} {n:Nat} {F:List D->M D} (G:zbq X.prog X.w X.K X.mg X.base CX0 k g fd ps (zbV X.K n F)) (hr:zdV k X.A) (hm:X.mg x=some (.ref g)) (hk:W.keepIn X.K (.ref g)=true) (hb:zaJ X.K fd ps [])
  (ha:SA X E (e::es) fs) (hg:Gl X x:=by rfl) (hdb:(x==("__debug__":Str))=false:=by decide) (he:starEach (e::es) X.env=(false,eval e X.env)::starEach es X.env:=by rfl) (hpl:(backTo pos (starEach es X.env)).any (·.1)=false:=by rfl):
  SE X E (.Call (.Name x p) (e::es) [] pos) (zaz (zap n fun ds=>noX (F ds)) fs):=zmP G hr hg hm hk hb ha hdb he hpl
theorem zof {st:Stmt} {g:FS} (h:SS X.nox E0x st g):SS X E st (zs6 g):=by
 intro pins s σ H D0 I ⟨ι,h2,sd,L,hh,q⟩
 exact qaZ (h pins s σ H D0 (I.wish _) ⟨ι,h2,sd,L,hh,Fin.noX q⟩) (fun _ _ q=>q.unwish) fun _ _ z=>qa0 z
theorem ziA {c:String} {C CE:Addr} {names:List String} {msg:Str} {jj:Nat} {np p2:Pos} (hc:X.calm=true) (hp:zo1 X E) (hX:zmq X.K CE names) (hn:names.contains c=true) (hcl:zcS X.K c C) (hg:Gl X (c:Str):=by rfl) (hd:((c:Str)==("__debug__":Str))=false:=by decide):
  SS X E (.Raise (some (.Call (.Name (c:Str) np) [.Constant (.str msg) jj p2] [] cpos)) none pos) (zgg c):=zpN (nid:="") hc hp (hX c (by simpa using hn) C hcl).exc hcl hg hd
noncomputable def zfP:List D->M D
 | [.int i]=>pure (.int i)
 | [.bl b]=>pure (.int (if b then 1 else 0))
 | _=>M.bad
theorem zeT:za0 X (.type "int") (zjL X.K E zfP):=by
 refine za0.imp zmd fun xs H Q ⟨ι,h,ds,rl,hr,q⟩=> ?_
 unfold zfP at q
 split at q
 ·simp only [zat,Rel] at rl
  obtain ⟨v,r,rfl,rfl,rfl⟩:=rl
  exact .inl ⟨_,rfl,Fin.out hr q _ (by simp [Rel])⟩
 ·simp only [zat,Rel] at rl
  obtain ⟨v,r,rfl,rfl,rfl⟩:=rl
  exact .inr ⟨_,rfl,Fin.out hr q _ (by simp [Rel])⟩
 ·exact qa0 q
noncomputable def zq9:D->M D
 | .lst ds=>do
  let bs<-ofO (znw ds)
  let j<-ofO (bs.findIdx? id)
  pure (.int j)
 | _=>M.bad
theorem zpl {jj:Nat} {p2:Pos} (ho:SE X E o fo)
  (hbase:attributeBase o "index" X.env (eval o X.env)=eval o X.env:=by rfl)
  (hfew:((backTo cpos (starEach [.Constant (.bool true) jj p2] X.env)).all (fun x=> !x.1) && (backToKw cpos (keywordEach [] X.env)).all (fun x=>x.1.isSome)
    && decide (([.Constant (.bool true) jj p2]:List Expr).length+([]:List Keyword).length+(if ([]:List Keyword).isEmpty then 0 else 1)<30))=true:=by rfl)
  (hline:(apos.endLine==cpos.line)=true:=by rfl) (hs:starEach [.Constant (.bool true) jj p2] X.env=(false,eval (.Constant (.bool true) jj p2) X.env)::starEach [] X.env:=by rfl) (hplain:(backTo cpos (starEach [] X.env)).any (·.1)=false:=by rfl):
  SE X E (.Call (.Attribute o "index" apos) [.Constant (.bool true) jj p2] [] cpos) (cUn zq9 fo):=by
 refine PE.imp (zpQ PySem.F.plainAttrs_list PySem.F.slot_list_index PySem.F.type_list_index zkt ho (zbs zq2 zcs hs) hbase hfew hline hs hplain) fun σ H Q ⟨ι,h,sd,L,hh,q⟩=>⟨ι,h,sd,L,hh,Fin.bind q fun d h1 ι1 H1 e1 s1 hr1 q1 v rv=> ?_⟩
 cases d with
 | lst ds=>
  obtain ⟨a,vs,e',h1',h2⟩:=zfM rv
  obtain ⟨bs,en,q2⟩:=Fin.ofOb q1
  obtain ⟨j,ej,q3⟩:=Fin.ofOb q2
  have:=zgE h2 en
  subst this
  subst e'
  refine ⟨.inl ⟨rfl,_,h1'⟩,a,bs,j,rfl,rfl,h1',?_,fun m hm=> ?_,Fin.out hr1 q3 _ (by simp [Rel])⟩
  ·obtain ⟨h3,h4,_⟩:=List.findIdx?_eq_some_iff_getElem.mp ej
   rw [qaf h3]
   simpa using h4
  ·obtain ⟨h3,h4,h5⟩:=List.findIdx?_eq_some_iff_getElem.mp ej
   rw [qaf (by omega)]
   simpa using h5 m hm
 | _=>exact qa0 q1
noncomputable def zeb (x y:D):M D:=match x,y with
 | .cel n,.tup zs=>do
  let ds<-zar n
  fits (ds.length+zs.length)
  zbX n (ds++zs)
  pure .non
 | _,_=>M.bad
noncomputable def ziI (fo fe:FE):FE:=fun sd=>do
 let x<-fo sd
 zck x
 let y<-fe sd
 zeb x y
theorem zm2 (ho:SE X E o fo) (he:SE X E e fe)
  (hbase:attributeBase o "extend" X.env (eval o X.env)=eval o X.env:=by rfl)
  (hfew:((backTo cpos (starEach [e] X.env)).all (fun x=> !x.1) && (backToKw cpos (keywordEach [] X.env)).all (fun x=>x.1.isSome)
    && decide (([e]:List Expr).length+([]:List Keyword).length+(if ([]:List Keyword).isEmpty then 0 else 1)<30))=true:=by rfl)
  (hline:(apos.endLine==cpos.line)=true:=by rfl) (hs:starEach [e] X.env=(false,eval e X.env)::starEach [] X.env:=by rfl) (hplain:(backTo cpos (starEach [] X.env)).any (·.1)=false:=by rfl):
  SE X E (.Call (.Attribute o "extend" apos) [e] [] cpos) (ziI fo fe):=by
 refine PE.imp (zpQ PySem.F.plainAttrs_list PySem.F.slot_list_extend PySem.F.type_list_extend zj3 ho (zbs he zcs hs) hbase hfew hline hs hplain) fun σ H Q ⟨ι,h,sd,L,hh,q⟩=>⟨ι,h,sd,L,hh,Fin.bind q fun d h1 ι1 H1 e1 s1 hr1 q1 v rv=> ?_⟩
 cases d with
 | cel n=>
  have q2:Fin X.K E ι1 H1 ((zar n>>=fun _=>fe sd>>=fun y=>zeb (.cel n) y) h1) (fun d ι' H'=> ∀ v,Rel X.K ι' H' d v->Q v H'):=by
   have ee:(zck (.cel n)>>=fun _=>fe sd>>=fun y=>zeb (.cel n) y:M D)=(zar n>>=fun _=>fe sd>>=fun y=>zeb (.cel n) y):=by
    show ((zar n>>=fun _=>pure ())>>=fun _=>fe sd>>=fun y=>zeb (.cel n) y)=_
    simp only [bind_assoc,pure_bind]
   rw [<- ee]
   exact q1
  obtain ⟨ds,e2,q3⟩:=zgM q2
  obtain ⟨a,vs,rfl,hn,hH,rl⟩:=hr1.read rv e2
  refine ⟨.inl ⟨rfl,vs,SqL.of hH⟩,ι1,h1,sd,L.step s1,hr1,Fin.bind q3 fun y h3 ι3 H3 e3 s3 hr3 q4 w rw'=> ?_⟩
  have rv3:=rv.step s3
  cases y with
  | tup zs=>
   have q5:Fin X.K E ι3 H3 ((zar n>>=fun ds=>fits (ds.length+zs.length)>>=fun _=>zbX n (ds++zs)>>=fun _=>pure D.non) h3) (fun d ι' H'=> ∀ v,Rel X.K ι' H' d v->Q v H'):=q4
   obtain ⟨ds3,e4,q6⟩:=zgM q5
   obtain ⟨a3,vs3,ea,hn3,hH3,rl3⟩:=hr3.read rv3 e4
   cases ea
   obtain ⟨b,ws,eb,hb,rlb⟩:=zds rw'
   obtain ⟨z,q7⟩:=Fin.fits q6
   refine ⟨a,b,vs3,ws,rfl,by rw [eb],hH3,hb,by rw [<- rl3.length, <-rlb.length];exact z,?_⟩
   have q8:Fin X.K E ι3 H3 (R.ok D.non (h3.set n (.lst (ds3++zs)))) (fun d ι' H'=> ∀ v,Rel X.K ι' H' d v->Q v H'):=q7
   exact q8 ι3 _ (hr3.cellS hn3) (hr3.cell hn3 (rl3.append rlb)) _ (by simp [Rel])
  | _=>exact qa0 q4
 | _=>exact qa0 q1
end
section
variable {P:Program} {w:World} {K:W.Frag} {mg:Str->Option Value} {base:Heap}
theorem toE {k:Nat} {f:Addr} {fd:FuncData} {ps:List Str} {n:Nat} {F:List D->M D} (G:zbq P w K mg base CX0 k f fd ps (zbV K n F)):zbq P w K mg base (CXE P w) k f fd ps (spE K n fun ds=>noX (F ds)):=by
 have h: ∀ vs H Q E,spE K n (fun ds=>noX (F ds)) vs H Q E->zbV K n F vs H Q E0:=fun vs H Q E ⟨hl,ι,h,ds,rl,hh,q⟩=>⟨hl,ι,h,ds,rl,hh,Fin.noX q⟩
 refine ⟨fun vs H Q E q=>G.len vs H Q E0 (h vs H Q E q),fun A outer s H args us vs Q E hr he hb hv hs=> ?_⟩
 refine codeAny_mono (G.run A outer s H args us vs Q E0 hr he hb hv (h vs H Q E hs)) fun r s' z=> ?_
 cases r with
 | error e=>exact qa0 z
 | ok f=>cases f<;>exact z
theorem zrm {x qual:Str} {st:Stmt} {f:Addr} {fd:FuncData} {N ps:List Str} {k:Nat} {G:Sd->M Out} (F:Fun K x qual st f fd) (S:zal N ps (zae st))
  (hb: ∀ (cdv:Value) (A:Around) (outer:List Env) (s:Shared) (H:Hp),zdR k (A.deeper (envOfC qual (zae st) s.heap.objs.size f cdv))->SSs ({zib CX0 P w K mg base N qual (zae st) f cdv A outer s H E0 with calm:=false}:Cx).nox E0x (zcM st) G):
  FnH P w K mg base (k+1) f fd ps (zbV K ps.length (zb6 N.length G)):=by
 obtain ⟨oc,od,kV,doc,pm,an,cdv,ct,osl,rfl,lk,hcd⟩:=F.ex
 refine zsI lk hcd S (fun vs H Q E h=>h.1) fun A outer s H vs Q hr ⟨hl,ι,h,ds,rl,hh,q⟩=>⟨_,hb cdv A outer s H hr,ι,h,zgc N.length ds,zeP rl,hh,?_⟩
 refine Fin.bind q fun o h1 ι1 H1 e1 s1 hr1 q1=> ?_
 cases o with
 | nx sd=>exact fun σ' _=>Fin.out hr1 q1 _ (by simp [Rel])
 | rt d=>exact fun v rv=>Fin.out hr1 q1 v rv
 | bk sd=>exact qa0 q1
 | ct sd=>exact qa0 q1
end
section
variable {X:Cx} {E:XE} {body:List Stmt} {ce en gk pe x:Str} {pce p1 p2 p3 p4 p5 hp pos:Pos} {CE fk:Addr} {fdk:FuncData} {Fk:List D->M D} {gb:FS} {k:Nat} {known:List String}
theorem zrz (j i:Nat) (z:zfT X) (hN:X.N.Nodup) (hm:X.mg ce=some (.ref CE)) (hkn:zmq X.K CE known)
  (FH:FnH X.prog X.w X.K X.mg X.base k fk fdk [pe] (zbV X.K 1 Fk)) (hbk:zaJ X.K fdk [pe] []) (hmk:X.mg gk=some (.ref fk)) (kp:W.keepIn X.K (.ref fk)=true) (hr:zdR k X.A)
  (hb: ∀ pn xe E',zdx (CXE X.prog X.w) (X.re pn xe) (znR X.K E')->SSs (X.re pn xe) E' body gb) (hij:j≠i:=by decide)
  (hj:X.N[j]? = some en:=by rfl) (hen:X.env.scope.names.lookup en=some .local:=by rfl) (hi:X.N[i]? = some x:=by rfl) (hx:X.env.scope.names.lookup x=some .local:=by rfl) (hg:Gl X ce:=by rfl) (hgk:Gl X gk:=by rfl)
  (hd:(ce==("__debug__":Str))=false:=by decide) (hd2:(gk==("__debug__":Str))=false:=by decide) (hd3:(en==("__debug__":Str))=false:=by decide)
  (hs:swapsWith (.Call (.Name gk p1) [.Name en p2] [] p3) (some (.Name x p5)) p4.line X.env=pure false:=by rfl):
  SS X E (.Try body [.ExceptHandler (some (.Name ce pce)) (some en) [.Assign [.Name x p5] (.Call (.Name gk p1) [.Name en p2] [] p3) p4] hp] [] [] pos) (ziF known gb i Fk):=zrU z hN hj hen hi hx hij hg hm hkn.known hb FH hbk hgk hmk kp hr hd hd2 hd3 hs
end
noncomputable def zhB (Fs:List (List D->M D)) (i:D):M (List D->M D):=match i with
 | .int j=>(match ixN Fs.length j with
   | some m=>ofO Fs[m]?
   | none=>M.bad)
 | _=>M.bad
noncomputable def zp1 (n:Nat) (Fs:List (List D->M D)) (fi:FE) (fs:FA):FE:=fun sd=>do
 let i<-fi sd
 let F<-zhB Fs i
 let ds<-fs sd
 zap n F ds
structure Fns (X:Cx) (n:Nat) (addrs:List Addr) (Fs:List (List D->M D)):Prop where
 len:Fs.length=addrs.length
 ok: ∀ (m:Nat) (F:List D->M D) (a:Addr),Fs[m]? = some F->addrs[m]? = some a-> ∃ k fd ps,zbq X.prog X.w X.K X.mg X.base (CXE X.prog X.w) k a fd ps (spE X.K n F)/\zdV k X.A/\W.keepIn X.K (.ref a)=true/\zaJ X.K fd ps []
theorem Fns.nil {X:Cx} {n:Nat}:Fns X n [] []:=⟨rfl,fun m F a h=>by simp at h⟩
theorem Fns.cons {X:Cx} {n k:Nat} {a:Addr} {F:List D->M D} {addrs:List Addr} {Fs:List (List D->M D)} {fd:FuncData} {ps:List Str} (G:zbq X.prog X.w X.K X.mg X.base (CXE X.prog X.w) k a fd ps (spE X.K n F)) (hr:zdV k X.A) (hk:W.keepIn X.K (.ref a)=true) (hb:zaJ X.K fd ps []) (h:Fns X n addrs Fs):Fns X n (a::addrs) (F::Fs):=by
 refine ⟨by simp [h.len],fun m F' a' h1 h2=> ?_⟩
 cases m with
 | zero=>simp at h1 h2;subst h1 h2;exact ⟨k,fd,ps,G,hr,hk,hb⟩
 | succ m=>simp at h1 h2;exact h.ok m F' a' h1 h2
section
variable {X:Cx} {E:XE} {e ix:Expr} {es fes:List Expr} {pos p q3 q4:Pos} {fi:FE} {fs:FA} {x:Str}
theorem zr0 {a:Addr} {addrs:List Addr} (hm:X.mg x=some (.ref a)) (h:PA X fes (fun _ H Q=>Q (addrs.map V.ref) H)) (hg:Gl X x:=by rfl) (hd:(x==("__debug__":Str))=false:=by decide) (hs:starEach (.Name x p::fes) X.env=(false,eval (.Name x p) X.env)::starEach fes X.env:=by rfl):
  PA X (.Name x p::fes) (fun _ H Q=>Q ((a::addrs).map V.ref) H):=zbs (zkz (v:= .ref a) hg hm rfl hd) h hs
theorem zqQ:PA X [] (fun _ H Q=>Q (([]:List Addr).map V.ref) H):=zcs
theorem zpX {n:Nat} {i:Int} {m:Nat} (h:ixN n i=some m):m<n:=by
 unfold ixN at h
 split at h
 ·split at h
  ·cases h;omega
  ·cases h
 ·split at h
  ·cases h;omega
  ·cases h
theorem zqV {n:Nat} {addrs:List Addr} {Fs:List (List D->M D)} (hfe:PA X fes (fun _ H Q=>Q (addrs.map V.ref) H)) (hF:Fns X n addrs Fs) (hx:zdx (CXE X.prog X.w) X (znR X.K E)) (hi:SE X E ix fi) (ha:SA X E (e::es) fs) (hsz:addrs.length<=60:=by simp) (hs:zgI ix:=by intro _ _;rfl)
  (he:starEach (e::es) X.env=(false,eval e X.env)::starEach es X.env:=by rfl) (hpl:(backTo pos (starEach es X.env)).any (·.1)=false:=by rfl):
  SE X E (.Call (.Subscript (.List fes q3) ix q4) (e::es) [] pos) (zp1 n Fs fi fs):=by
 intro pins s σ H Q I ⟨ι,h,sd,L,hh,q⟩
 show wpAny (model X.prog X.w) X.A (eval (.Subscript (.List fes q3) ix q4) X.env>>=fun f=>callWith pos f [] (backTo pos (starEach (e::es) X.env)) (backToKw pos (keywordEach [] X.env))) _ _ s
 refine qaW ?_
 refine thn (zrx (pos:=q4) zlS (zlr hfe) hi hs pins s σ H (fun v H1=> ∃ (a:Addr) (m:Nat) (F:List D->M D) (ι1:Io) (h1:Hh),v= .ref a/\Fs[m]? = some F/\addrs[m]? = some a/\zc1 X.K ι1 H1 sd σ/\zbg X.K ι1 H1 h1/\Fin X.K E ι1 H1 ((do let ds<-fs sd;zap n F ds) h1) fun d ι' H'=> ∀ v,Rel X.K ι' H' d v->Q v H') I ?_) fun f s1 hf=> ?_
 ·refine ⟨by rw [qaH];exact qaS hsz (by decide),fun p hp=>⟨ι,h,sd,L.step (hh.laidS hp),hh.laid hp,?_⟩⟩
  refine Fin.bind (Fin.step (hh.laidS hp) q) fun d h1 ι1 H1 e1 s1 hr1 q1 v rv=> ?_
  cases d with
  | int j=>
   simp only [Rel] at rv
   subst rv
   have hp1:H1 p=some (.lst (addrs.map V.ref)):=s1.keep p _ zaS (hh.nin hp)
   cases ej:ixN Fs.length j with
   | none=>
    have q2:Fin X.K E ι1 H1 ((zhB Fs (.int j)>>=fun F=>fs sd>>=fun ds=>zap n F ds) h1) _:=q1
    unfold zhB at q2
    simp only [ej] at q2
    exact qa0 q2
   | some m=>
    have hm:=zpX ej
    have hm2:m<addrs.length:=by rw [<- hF.len];exact hm
    refine ⟨p,_,j,.ref addrs[m],rfl,rfl,SqL.of hp1,?_,addrs[m],m,Fs[m],ι1,h1,rfl,by simp [hm],by simp [hm2],(L.step (hh.laidS hp)).step s1,hr1,?_⟩
    ·unfold atI
     rw [qaH, <-hF.len,ej]
     simp [hm2]
    ·have q2:Fin X.K E ι1 H1 ((zhB Fs (.int j)>>=fun F=>fs sd>>=fun ds=>zap n F ds) h1) _:=q1
     unfold zhB at q2
     simp only [ej,qaf hm] at q2
     exact q2
  | _=>exact qa0 q1
 ·obtain ⟨v,H1,I1,rv,a,m,F,ι1,h1,rfl,hFm,ham,L1,hr1,q1⟩:=hf
  obtain rfl:f=Value.ref a:=rv
  obtain ⟨k,fd,ps,G,hr,hk,hb⟩:=hF.ok m F a hFm ham
  refine W.callWith_K (h₀:=X.base) I.ok.mod.kin hk (thn (ha pos pins s1 σ H1 _ I1 ⟨ι1,h1,sd,L1,hr1,Fin.bind q1 fun ds h2 ι2 H2 e2 s2 hr2 q2 vs rvs=> ?_⟩) fun us s2 ⟨vs,H2,I2,r,q⟩=>⟨I2.kIn,zog G hr hb (dvs:=[]) .nil hx I2 r q⟩) he hpl
  show spE X.K n F (vs++[]) H2 Q _
  rw [List.append_nil]
  unfold zap at q2
  by_cases hl:ds.length=n
  ·rw [qa4 hl] at q2
   exact ⟨by rw [<- rvs.length];exact hl,ι2,h2,ds,rvs,hr2,Fin.exmono (fun c H' z C v hc=>⟨c,C,rfl,hc,z⟩) q2⟩
  ·rw [qa5 hl] at q2
   exact qa0 q2
end
end L3
namespace L2
open PySem PySem.Spec PyProof.Rows
section
variable {X:Cx} {tg:Expr}
theorem zhd (hc:X.calm=true):za0 X (.type "list") (fun xs H Q=> ∃ (p:Addr) (j:Int),xs=[.ref p]/\H p=some (.rng 0 j)/\0<=j/\j<1000/\ ∀ l,H l=none->Q (.ref l) (upd H l (.lst (((List.range j.toNat).map fun (k:Nat)=>(k:Int)).map V.int)))):=by
 intro pins s σ H xs us Q I r h
 obtain ⟨p,j,rfl,hp,h0,h1,q⟩:=h
 obtain ⟨u,rfl,rx⟩:=zeO r
 cases rx
 obtain ⟨t,u',v,hr⟩:=(show zbU X.prog X.w H s.heap p (.rng 0 j) from I.hok p _ hp)
 refine call_list_range (I.ok.hd hc) hr (small_one (by omega) (by omega) (by omega) (by omega)) (zjB h0) (by omega) fun h' tk acc c' hk hS hacc=> ?_
 have hl:acc.toList.length=j.toNat:=by rw [qas];exact hacc.1
 have I2:=I.laid (t':=tk) (h':=h') (a:=s.heap.objs.size) (o:= .lst (((List.range j.toNat).map fun (k:Nat)=>(k:Int)).map V.int)) hk (qaV _)
  (show zbU X.prog X.w _ h' _ (.lst _) from ⟨by rw [qaH,qaH,List.length_range];exact qaS (show j.toNat<=1000 by omega) (by decide),acc.toList,c',zed _ _ (by rw [qaH,List.length_range,hl]) (fun k w e=> ?_),by simpa using hS⟩)
 ·exact ⟨.ref s.heap.objs.size,_,I2,rfl,q _ (I.hok.fresh (qaV _))⟩
 ·have hk':k<j.toNat:=by rw [<- hl];exact (qac.mp e).1
  obtain ⟨t,et⟩:=hacc.2 k w (by simpa using e)
  refine ⟨t,?_⟩
  rw [et]
  simp [hk']
end
end L2
namespace L3
open PySem PySem.Spec PyProof.Rows L2
section
variable {X:Cx} {E:XE} {e o:Expr} {f fo fe:FE} {pos apos cpos:Pos}
noncomputable def zeC (tc:FT) (gb:FS):Nat->FS
 | 0,_=>M.bad
 | n+1,sd=>do
  let b<-tc sd
  if b=true then
   let o<-gb sd
   match o with
   | .nx sd'=>zeC tc gb n sd'
   | .ct sd'=>zeC tc gb n sd'
   | .bk sd'=>pure (.nx sd')
   | .rt d=>pure (.rt d)
  else pure (.nx sd)
noncomputable def zhw (n:Nat) (tc:FT) (gb:FS):FS:=zeC tc gb n
theorem zig {c:Expr} {body:List Stmt} {tc:FT} {gb:FS} (n:Nat) (hp:PassesOwn (model X.prog X.w) X.A X.env X.xe) (hc:ST X E c tc) (hb:SSs X E body gb):SS X E (.While c body [] pos) (zhw n tc gb):=by
 refine PS.imp (zmY hp hc hb) fun D0 σ H ⟨ι,h,sd,L,hh,q⟩=> ?_
 refine ⟨fun m σ' H'=> ∃ ι' h' sd',zc1 X.K ι' H' sd' σ'/\zbg X.K ι' H' h'/\Fin X.K E ι' H' (zeC tc gb m sd' h') (zha X.K D0),⟨n,ι,h,sd,L,hh,q⟩,?_⟩
 rintro m σ2 H2 ⟨ι2,h2,sd2,L2,hr2,q2⟩
 cases m with
 | zero=>exact qa0 q2
 | succ m=>
  refine ⟨ι2,h2,sd2,L2,hr2,Fin.bind q2 fun b h3 ι3 H3 e3 s3 hr3 q3=> ?_⟩
  cases b with
  | true=>
   refine ⟨fun σ' H'=> ∃ ι' h' sd',zc1 X.K ι' H' sd' σ'/\zbg X.K ι' H' h'/\Fin X.K E ι' H' (zeC tc gb m sd' h') (zha X.K D0),fun σ' H' p=>⟨m,by omega,p⟩,ι3,h3,sd2,L2.step s3,hr3,Fin.bind q3 fun o h7 ι7 H7 e7 s7 hr7 q7=> ?_⟩
   cases o with
   | nx sd'=>exact fun σ' L'=>⟨ι7,h7,sd',L',hr7,q7⟩
   | ct sd'=>exact fun σ' L'=>⟨ι7,h7,sd',L',hr7,q7⟩
   | bk sd'=>exact fun σ' L'=>Fin.out (E:=E) (P:=zha X.K D0) hr7 q7 σ' L'
   | rt d=>exact fun v rv=>Fin.out (E:=E) (P:=zha X.K D0) hr7 q7 v rv
  | false=>exact Fin.out (E:=E) (P:=zha X.K D0) hr3 q3 σ2 (L2.step s3)
noncomputable def zcv:D->M D
 | .int j=>if 0<=j/\j<1000 then pure (.lst (ze6 0 j.toNat)) else M.bad
 | _=>M.bad
theorem zdu {p1 p2 pos pos2:Pos} (hc:X.calm=true) (hm1:X.mg "list"=none) (hm2:X.mg "range"=none) (he:SE X E e f) (hg1:Gl X "list":=by rfl) (hg2:Gl X "range":=by rfl)
  (h1:starEach [.Call (.Name "range" p2) [e] [] pos2] X.env=[(false,eval (.Call (.Name "range" p2) [e] [] pos2) X.env)]:=by rfl) (h2:starEach [e] X.env=[(false,eval e X.env)]:=by rfl):
  SE X E (.Call (.Name "list" p1) [.Call (.Name "range" p2) [e] [] pos2] [] pos) (cUn zcv f):=by
 refine PE.imp (zc2 (zhd hc) hg1 hm1 PyProof.Rows.boot_list (zbs (zc2 zfC hg2 hm2 boot_range (zbs he zcs h2) (he:=h2)) zcs h1) (he:=h1)) fun σ H Q ⟨ι,h,sd,L,hh,q⟩=>⟨ι,h,sd,L,hh,Fin.bind q fun d h1 ι1 H1 e1 s1 hr1 q1 v rv=> ?_⟩
 cases d with
 | int j=>
  simp only [Rel] at rv
  obtain ⟨⟨c1,c2⟩,q2⟩:=Fin.guard q1
  refine ⟨j,by rw [rv],fun p hp=> ?_⟩
  have hr2:zbg X.K ι1 (upd H1 p (.rng 0 j)) h1:=hr1.laid hp
  exact ⟨p,j,rfl,zaS,c1,c2,fun l hl=>zqq hr2 zjx (Fin.step (hr1.laidS hp) q2) hl⟩
 | _=>exact qa0 q1
theorem zat.eraseIdx {K:W.Frag} {ι:Io} {H:Hp}: ∀ {ds:List D} {vs:List V} (i:Nat),zat K ι H ds vs->zat K ι H (ds.eraseIdx i) (vs.eraseIdx i)
 | [],vs,i,h=>by
  simp only [zat] at h
  subst h
  simpa using zat.nil
 | x::r,vs,i,h=>by
  simp only [zat] at h
  obtain ⟨v,vs',rfl,rv,rl⟩:=h
  cases i with
  | zero=>simpa using rl
  | succ i=>exact zat.cons rv (zat.eraseIdx i rl)
end
end L3
namespace L3
open PySem
open Sem (wp)
open AutoSeq1 (wpAny_loadPart')
section
variable {prog:Program} {w:World} {A:Around} {E:Value->Shared->Prop} {s:Shared}
theorem zeS {it l:Addr} {i:Nat} {items:Array Value} {x:Value} {Q:Value->Shared->Prop} (hit:s.heap.IsTupleIter it l i) (hl:s.heap.IsTuple l items) (hx:items[i]? = some x)
  (hQ: ∀ h',h'.IsTupleIter it l (i+1)->Heap.SameBut it s.heap h'->Q x {s with heap:=h'}):wpAny (model prog w) A (Builtin.SmallTypes.nextOf (.ref it)) Q E s:=by
 obtain ⟨o,ho,hc,hd⟩:=id hit
 obtain ⟨ol,hol,_,nl,hdl⟩:=hl
 unfold Builtin.SmallTypes.nextOf
 refine qaW (wpAny_callSpecial?_slot (name:=Str.ofString "__next__") hit.typeIs F.slot_tuple_iterator_next
   (wpAny_call_entry F.slot_tuple_iterator_next hit.typeIs F.entry_tuple_iterator_next ?_ (F.args_tuple_iterator_next_1 _)))
 show wpAny _ _ (field (.ref it) 0>>=_) _ _ s
 refine qaW (wpAny_field ho hd (x:= .ref l) rfl ?_)
 show wpAny _ _ (if (Value.ref l==Value.none)=true then _ else _) _ _ s
 rw [qa5 (show ¬((Value.ref l==Value.none)=true) from Bool.false_ne_true)]
 show wpAny _ _ (field (.ref it) 1>>=_) _ _ s
 refine qaW (wpAny_field ho hd (x:= .int i 0) rfl ?_)
 show wpAny _ _ (seqItems? (.ref l)>>=_) _ _ s
 refine qaW (wpAny_seqItems hol hdl ?_)
 simp only [qaB,hx]
 refine qaW (wpAny_setField ho hd (by simp) (qaX ⟨x,rfl,qaX (hQ _ ?_ (Heap.SameBut.update ..))⟩))
 exact ⟨_,qal _ ho (Obj.isFreed_of_fields (Obj.data_mapFields hd _)),(Obj.cls_mapFields ..).trans hc,by
   rw [Obj.data_mapFields hd];simp [rawInt]⟩
theorem ze2 {it l:Addr} {i:Nat} {items:Array Value} {Q:Value->Shared->Prop} (hh:zkg A s.heap) (hit:s.heap.IsTupleIter it l i) (hl:s.heap.IsTuple l items) (hx:items[i]? = none)
  (hE: ∀ h' e,Heap.ExtBut it s.heap h'->(∃ o,h'.get? e=some o/\o.cls= .type "StopIteration")->E (.ref e) {s with heap:=h'}):wpAny (model prog w) A (Builtin.SmallTypes.nextOf (.ref it)) Q E s:=by
 obtain ⟨o,h1,h2,h3⟩:=id hit
 obtain ⟨ol,l1,_,nl,l2⟩:=hl
 unfold Builtin.SmallTypes.nextOf
 refine qaW (wpAny_callSpecial?_slot (name:=Str.ofString "__next__") hit.typeIs F.slot_tuple_iterator_next
   (wpAny_call_entry F.slot_tuple_iterator_next hit.typeIs F.entry_tuple_iterator_next ?_ (F.args_tuple_iterator_next_1 _)))
 show wpAny _ _ (field (.ref it) 0>>=_) _ _ s
 refine qaW (wpAny_field h1 h3 (x:= .ref l) rfl ?_)
 show wpAny _ _ (if (Value.ref l==Value.none)=true then _ else _) _ _ s
 rw [qa5 (show ¬(Value.ref l==Value.none)=true from nofun)]
 show wpAny _ _ (field (.ref it) 1>>=_) _ _ s
 refine qaW (wpAny_field h1 h3 (x:= .int i 0) rfl ?_)
 show wpAny _ _ (seqItems? (.ref l)>>=_) _ _ s
 refine qaW (wpAny_seqItems l1 l2 ?_)
 simp only [qaB,hx]
 refine qaW (wpAny_rule (qaW (wpAny_setField h1 h3 (by simp) ?_)))
 show wpAny _ _ (newExc (.type "StopIteration") []>>=_) _ _ _
 refine qaW ?_
 simp only [newExc,newTuple]
 refine qaW (qaC ?_ (by size_fits))
 refine qaW (m:=firstArgMember _ _) (wpAny_of_eq (a:=Value.none) (by first | rfl | (simp only [firstArgMember];rfl)) ?_)
 refine qaC ?_ (by size_fits)
 rcases hh with hh | ⟨ha,cls,head,hh,hX⟩
 ·simp only [raiseNew]
  refine qaW (wpAny_handled ?_)
  first | rw [show A.in1.handled=none from hh] | rw [hh]
  refine qaW (qaX (wpAny_throw ?_))
  exact hE _ _ (((Heap.SameBut.update ..).extBut.push _).push _) ⟨_,qar _ rfl,rfl⟩
 have nit:ha≠it:=fun z=>by
  subst z
  obtain ⟨ob,vs,x1,_,_,x4,x5,x6⟩:=hX
  rw [h1] at x1
  cases x1
  rw [h3] at x4
  cases x4
  simp at x5
 have hX1:zic (s.heap.update it (Obj.mapFields (·.setIfInBounds 0 Value.none))) ha cls head:=by
  obtain ⟨ob,vs,x1,x2⟩:=hX
  exact ⟨ob,vs,(qah _ _ (Ne.symm nit)).trans x1,x2⟩
 obtain ⟨ob,vs,x1,x2⟩:=hX1
 have y1:=qag {cls:= .type "tuple",dict:=none,data:= .seq [].toArray} x1
 refine zcZ (h:=ha) (cls:=cls) (head:=head) hh ⟨ob,vs,qag _ y1,x2⟩ (qar _ rfl) rfl (by simp;omega) (qaR (qaQ y1)) ?_
 refine hE _ _ (fun b o hb z=> ?_) ⟨_,qal _ (qar _ rfl) rfl,rfl⟩
 have z1:(s.heap.update it (Obj.mapFields (·.setIfInBounds 0 Value.none))).get? b=some o:=(qah _ _ (Ne.symm hb)).trans z
 have z2:=qag {cls:= .type "tuple",dict:=none,data:= .seq [].toArray} z1
 rw [qah _ _ (Nat.ne_of_gt (qaQ z2))]
 exact qag _ z2
end
noncomputable def zbn (A:Around):List Addr:=match A.handled with
 | some (.ref a)=>[a]
 | _=>[]
theorem zkg.keep {A:Around} {h h':Heap} (x:zkg A h) (k: ∀ b∈zbn A, ∀ o,h.get? b=some o->h'.get? b=some o):zkg A h':=by
 rcases x with x | ⟨a,cls,head,x1,ob,vs,x2,x3⟩
 ·exact .inl x
 ·exact .inr ⟨a,cls,head,x1,ob,vs,k a (by unfold zbn;rw [x1];simp) _ x2,x3⟩
theorem zfJ {prog:Program} {w:World} {A:Around} (it l:Addr) (hne:l≠it) (items:Array Value):
  Draws prog w A.in1 it (it::l::zbn A) items.size (fun i v=>items[i]? = some v) (fun i h=>h.IsTupleIter it l i/\h.IsTuple l items/\zkg A h/\it∉zbn A) where
 live:=fun _ _ st=>let ⟨o,ho,_⟩:=st.1;⟨o,ho⟩
 frame:=fun _ _ _ st hk=>⟨st.1.at fun o e=>hk it (by simp) o e,st.2.1.at fun o e=>hk l (by simp) o e,st.2.2.1.keep fun b hb o e=>hk b (by simp [hb]) o e,st.2.2.2⟩
 item:=fun i s Q E hi st hQ=>by
  refine zeS st.1 st.2.1 (x:=items[i]) (by simp [hi]) fun h' hit' hs'=> ?_
  exact hQ _ h' s.toks (by simp [hi]) ⟨hit',st.2.1.extBut hs'.extBut hne,st.2.2.1.keep fun b hb o e=>(hs'.2 b fun z=>st.2.2.2 (z▸hb)).trans e,st.2.2.2⟩ hs'
 done:=fun s Q E st hE=>ze2 (A:=A.in1) st.2.2.1 st.1 st.2.1 (by simp) hE
theorem zdO (l:Addr) (items:Array Value) (n:Nat) (dct:Option Addr) (sl:Array (Option Value)):
  Meets (Builtin.«enumerate.__new__» ⟨[.type "enumerate",.ref l],[]⟩) (fun _ R s=>s.heap.get? l=some {cls:= .type "tuple",dict:=dct,data:= .seq items n,slots:=sl}/\
    R (.ok (.ret (.ref (s.heap.push {cls:= .type "tuple_iterator",data:= .fields #[.ref l,.int 0 0]}).objs.size)))
      {s with heap:=(s.heap.push {cls:= .type "tuple_iterator",data:= .fields #[.ref l,.int 0 0]}).push {cls:= .type "enumerate",data:= .fields #[.none,.bool false,.ref s.heap.objs.size,rawInt 0,.none,.none]}}):=
 .of_wp fun prog w A R s h=>by
  obtain ⟨hp,g,d,tk,os⟩:=s;obtain ⟨hl,h⟩:=h
  have hsub:=sub_enumerate
  have hL:Heap.IsTuple (Shared.heap ⟨hp,g,d,tk,os⟩) l items:=⟨_,hl,rfl,n,rfl⟩
  wp_walk using wpAny_loadPart' hl
  refine wpAny_stack_any fun st=>qaX ?_
  split
  ·rename_i c _ _ _ _ _
   cases (c==Value.type "enumerate")
   ·wp_walk using wpAny_loadPart' hl,wpAny_pyIter_tuple hL
    exact ⟨_,rfl,h⟩
   ·wp_walk using wpAny_loadPart' hl,wpAny_pyIter_tuple hL
    exact ⟨_,rfl,h⟩
  ·wp_walk using wpAny_loadPart' hl,wpAny_pyIter_tuple hL
   exact ⟨_,rfl,h⟩
end L3
namespace L3
open PySem
section
variable {prog:Program} {w:World} {A:Around} {E:Value->Shared->Prop} {s:Shared}
theorem zdP {l:Addr} {items:Array Value} {Q:Value->Shared->Prop} (hL:s.heap.IsTuple l items)
  (h: ∀ h',IsEnum h' (s.heap.objs.size+1) s.heap.objs.size 0 .none->h'.IsTupleIter s.heap.objs.size l 0->h'.objs.size=s.heap.objs.size+2->
    (∀ b o,s.heap.get? b=some o->h'.get? b=some o)->Q (.ref (s.heap.objs.size+1)) {s with heap:=h'}):
  wpAny (model prog w) A (call (.type "enumerate") [.ref l]) Q E s:=by
 obtain ⟨⟨c,dct,dt,sl⟩,hl,hc,n,hd⟩:=hL
 replace hc:c= .type "tuple":=hc
 replace hd:dt= .seq items n:=hd
 subst hc hd
 refine callType_new F.called_enumerate (by decide) (F.typeCall_enumerate_1 _) (F.newCall_enumerate_1 _) (fun obj=>F.args_object_init_2 obj _) F.entry_enumerate_new
  (zdO l items n dct sl) ⟨hl,?_⟩
 have hz:(s.heap.push {cls:= .type "tuple_iterator",data:= .fields #[.ref l,.int 0 0]}).objs.size=s.heap.objs.size+1:=qaL ..
 show _/\_
 rw [hz]
 have he:IsEnum ((s.heap.push {cls:= .type "tuple_iterator",data:= .fields #[.ref l,.int 0 0]}).push
     {cls:= .type "enumerate",data:= .fields #[.none,.bool false,.ref s.heap.objs.size,rawInt 0,.none,.none]}) (s.heap.objs.size+1) s.heap.objs.size 0 .none:=by
  have:=qar (s.heap.push {cls:= .type "tuple_iterator",data:= .fields #[.ref l,.int 0 0]})
   (o:={cls:= .type "enumerate",data:= .fields #[.none,.bool false,.ref s.heap.objs.size,rawInt 0,.none,.none]}) rfl
  rw [hz] at this;exact this
 exact ⟨⟨_,he,rfl⟩,h _ he ⟨_,qag _ (qar _ rfl),rfl,rfl⟩ (by rw [qaL,hz]) fun b o x=>qag _ (qag _ x)⟩
end
end L3
namespace L2
open PySem PySem.Spec PyProof.Rows
section
variable {X:Cx} {pins:List (Addr×Obj)} {σ:St} {H:Hp} {s:Shared} {h':Heap}
theorem Inv.turned2 {t':Nat} {e it:Addr} (I:Inv X pins σ H s) (k: ∀ b o,b≠e->b≠it->s.heap.get? b=some o->h'.get? b=some o) (f:zia X pins H e) (g:zia X pins H it):Inv X pins σ H {s with heap:=h',toks:=t'}:=by
 obtain ⟨f0,f1,f2,f3,f4,f5⟩:=f
 obtain ⟨g0,g1,g2,g3,g4,g5⟩:=g
 have ne: ∀ b u,H b=some u->b≠e:=fun b u q z=>by rw [z,f0] at q;cases q
 have nit: ∀ b u,H b=some u->b≠it:=fun b u q z=>by rw [z,g0] at q;cases q
 have kk: ∀ b o,b∉[e,it]->s.heap.get? b=some o->h'.get? b=some o:=fun b o hb q=>k b o (fun z=>hb (by simp [z])) (fun z=>hb (by simp [z])) q
 refine I.step (g':=s.gens) (d':=s.drawn) (ch:=[e,it]) (fun b hb=> ?_) (fun b o _ _ hc q _=>kk b o hc q) (fun b o _ _ hc q _=>⟨o.slots,kk b o hc q⟩) (fun _ _ _ _ n=>n)
  (fun b o hc q=>⟨o,kk b o hc q⟩) (fun _ _ q=>q) (fun _ _ _ q=>q) (fun b ps q=>⟨#[],by rw [q];simp⟩) (fun m hm=> ?_) (fun b u q=> ?_) I.bare
 ·have z:b=e\/b=it:=by simpa using hb
  rcases z with rfl | rfl
  ·exact ⟨f3,f1,f4,f5⟩
  ·exact ⟨g3,g1,g4,g5⟩
 ·obtain ⟨o,es,ep,ho,r⟩:=hm
  exact ⟨o,es,ep,k _ o (Ne.symm f1) (Ne.symm g1) ho,r⟩
 ·refine (I.hok b u q).stay (fun c v hc q'=> ?_) (fun _ q=>q) fun _ _ q=>q
  rcases hc with z | z
  ·rw [z];exact k b v (ne b u q) (nit b u q) (by rw [<- z];exact q')
  ·exact k c v (ne c _ z) (nit c _ z) q'
end
noncomputable def Ite (K:W.Frag) (a:Addr):It:=
 ⟨fun i H=> ∃ xs x,SqT K H a xs/\xs[i]? = some x,fun i H x H'=> ∃ T y,H T=none/\H'=upd H T (.tup [.int i,y])/\x= .ref T/\ ∀ xs,SqT K H a xs->xs[i]? = some y,fun i H=> ∃ xs,SqT K H a xs/\xs.length=i⟩
theorem zlO {P:Program} {w:World} {K:W.Frag} {elts:List Expr} {k:Nat} {pos:Pos} (a e it:Addr) (hei:e≠it):zqm P w K (.Tuple elts k pos) (Ite K a) [e,it] e (fun i h=>(∃ old,IsEnum h e it i old)/\h.IsTupleIter it a i) where
 mem:=by simp
 obj:=fun i h st b hb=>by
  obtain ⟨⟨old,he⟩,o,ho,hc,hd⟩:=st
  have z:b=e\/b=it:=by simpa using hb
  rcases z with rfl | rfl
  ·exact ⟨_,he,fun v z=>by cases z⟩
  ·exact ⟨o,ho,fun v z=>by rw [hd] at z;cases z⟩
 keep:=fun i h h' st k=>⟨let ⟨old,he⟩:=st.1;⟨old,k e (by simp) _ he⟩,st.2.at fun o q=>k it (by simp) o q⟩
 item:=by
  intro X hP hw hK i pins s σ H E I hf st hg
  subst hP hw hK
  obtain ⟨xs,y,hq,hx⟩:=hg
  obtain ⟨its,rv,p,hz⟩:=I.tuple hq
  obtain ⟨u,hu,ru⟩:=rv.get hx
  obtain ⟨⟨old,he⟩,hit⟩:=st
  have hfe:=hf e (by simp)
  have hfi:=hf it (by simp)
  obtain ⟨ot,ht,hct,nt,hdt⟩:=(show s.heap.IsTuple a its.toArray from p)
  obtain ⟨oi,hi,hci,hdi⟩:=id hit
  have hai:a≠it:=fun z=>by
   subst z
   rw [ht] at hi
   cases hi
   rw [hdt] at hdi
   cases hdi
  have hea:e≠a:=fun z=>by
   subst z
   have he':s.heap.get? e=_:=he
   rw [ht] at he'
   cases he'
   cases hdt
  have hin:it∉L3.zbn X.A:=fun z=>by
   rcases I.hand with q | ⟨ha,cls,head,q,ob,vs,x1,_,_,x4,x5,_⟩
   ·unfold L3.zbn at z;rw [q] at z;simp at z
   ·unfold L3.zbn at z
    rw [q] at z
    have:it=ha:=by simpa using z
    subst this
    rw [hi] at x1
    cases x1
    rw [hdi] at x4
    cases x4
    simp at x5
  have hen:e∉L3.zbn X.A:=fun z=>by
   rcases I.hand with q | ⟨ha,cls,head,q,ob,vs,x1,_,_,x4,x5,_⟩
   ·unfold L3.zbn at z;rw [q] at z;simp at z
   ·unfold L3.zbn at z
    rw [q] at z
    have:e=ha:=by simpa using z
    subst this
    have he':s.heap.get? e=_:=he
    rw [x1] at he'
    cases he'
    cases x4
    simp at x5
  have hlt:i<its.toArray.size:=by
   have:=(qac.mp hu).1
   simpa using this
  refine wpAny_pyNext_enum_itemD (L3.zfJ (A:=X.A) it a hai its.toArray) he ⟨hit,p,I.hand,hin⟩ hlt hei (by simp [hei,hea,hen]) fun x h1 tk hP ho hs' hT hsz hk=> ?_
  have hxu:x=u:=by
   have:its[i]? = some x:=by simpa using hP
   rw [hu] at this
   exact (Option.some.inj this).symm
  subst hxu
  refine ⟨_,rfl,wpAny_letOwnedTupleGo_enum ho fun h2 he2 hs2=> ?_⟩
  have het:e≠s.heap.objs.size:=qaR (qaQ he)
  have hit':it≠s.heap.objs.size:=qaR (qaQ hi)
  have fresh:=I.hok.fresh (qaV s.heap.objs.size)
  have I1:Inv X pins σ (upd H s.heap.objs.size (.tup [.int i,y])) {s with heap:=s.heap.push {cls:= .type "tuple",data:= .seq #[.int i tk,x]},toks:=tk+1}:=
   I.laid (t':=tk+1) (fun b o q=>qag _ q) (qaV _) (show zbU X.prog X.w _ _ _ (.tup [.int i,y]) from ⟨by show 2<=sizeLine;decide,[.int i tk,x],.cons ⟨tk,rfl⟩ (.cons ru .nil),IsTup.new _ _⟩)
  have fe:zia X pins (upd H s.heap.objs.size (.tup [.int i,y])) e:=⟨by rw [zaF het];exact hfe.1,hfe.2⟩
  have fi:zia X pins (upd H s.heap.objs.size (.tup [.int i,y])) it:=⟨by rw [zaF hit'];exact hfi.1,hfi.2⟩
  have I2:Inv X pins σ (upd H s.heap.objs.size (.tup [.int i,y])) {s with heap:=h1,toks:=tk+1}:=I1.turned2 (t':=tk+1) (h':=h1) (fun b o hb1 hb2 q=>by
    rcases Heap.get?_push_cases q with ⟨z1,z2⟩ | z
    · rw [z1,z2];exact hT
    · exact hk b o hb1 hb2 z) fe fi
  obtain ⟨f0,f1,f2,f3,f4,f5⟩:=fe
  have I3:Inv X pins σ (upd H s.heap.objs.size (.tup [.int i,y])) {s with heap:=h2,toks:=tk+1}:=I2.turned (t':=tk+1) (fun b o hb q=>(hs2.2 b hb).trans q) f0 f1 f3 f4 f5
  refine ⟨.ref s.heap.objs.size,_,I3,rfl,⟨s.heap.objs.size,y,fresh,rfl,rfl,fun ys hy=>by rw [I.tuple_inj hy hq];exact hx⟩,⟨⟨x,by simpa using he2⟩,hs'.1.at fun o q=>(hs2.2 it (Ne.symm hei)).trans q⟩,fun b hb=> ?_⟩
  have z:b=e\/b=it:=by simpa using hb
  rcases z with rfl | rfl
  ·exact f0
  ·exact fi.1
 done:=by
  intro X hP hw hK i pins s σ H E I hf st hg
  subst hP hw hK
  obtain ⟨xs,hq,hx⟩:=hg
  obtain ⟨its,rv,p,hz⟩:=I.tuple hq
  obtain ⟨⟨old,he⟩,hit⟩:=st
  have hfi:=hf it (by simp)
  obtain ⟨ot,ht,hct,nt,hdt⟩:=(show s.heap.IsTuple a its.toArray from p)
  obtain ⟨oi,hi,hci,hdi⟩:=id hit
  have hai:a≠it:=fun z=>by
   subst z
   rw [ht] at hi
   cases hi
   rw [hdt] at hdi
   cases hdi
  have hin:it∉L3.zbn X.A:=fun z=>by
   rcases I.hand with q | ⟨ha,cls,head,q,ob,vs,x1,_,_,x4,x5,_⟩
   ·unfold L3.zbn at z;rw [q] at z;simp at z
   ·unfold L3.zbn at z
    rw [q] at z
    have:it=ha:=by simpa using z
    subst this
    rw [hi] at x1
    cases x1
    rw [hdi] at x4
    cases x4
    simp at x5
  have hn:its.toArray.size=i:=by
   have:=rv.length
   simp
   omega
  subst hn
  obtain ⟨f0,f1,f2,f3,f4,f5⟩:=hfi
  exact wpAny_pyNext_enum_endD (L3.zfJ (A:=X.A) it a hai its.toArray) he ⟨hit,p,I.hand,hin⟩ fun h' hx'=>⟨rfl,I.turned (t':=s.toks) (fun b o hb q=>hx' b o hb q) f0 f1 f3 f4 f5⟩
 self:=fun _ _ _ _ _ st h=>let ⟨⟨_,he⟩,_⟩:=st;wpAny_pyIter_enum he h
section
variable {X:Cx} {elts:List Expr} {k:Nat} {tpos:Pos}
noncomputable def ztv (K:W.Frag) (ta:TA):TI:=fun σ H R=>ta σ H fun vs H1=> ∃ a,vs=[.ref a]/\(∃ xs,SqT K H1 a xs)/\R (Ite K a) H1
theorem zpH {l:Expr} {ta:TA} {p pos:Pos} (hg:Gl X "enumerate") (hm:X.mg "enumerate"=none) (ha:PA X [l] ta) (hs:starEach [l] X.env=[(false,eval l X.env)]:=by rfl):
  PI X (.Tuple elts k tpos) (.Call (.Name "enumerate" p) [l] [] pos) (ztv X.K ta):=by
 intro pins s σ H R I h
 refine Call_ (zgj I hg hm PyProof.Rows.boot_enumerate (PyProof.Rows.callWith_type1 (thn (ha pos pins s σ H _ I h) fun us s1 ⟨vs,H1,I1,r1,q1⟩=> ?_) hs rfl))
 obtain ⟨a,e,⟨xs,hq⟩,q⟩:=q1
 subst e
 cases r1 with
 | cons r rr=>
  cases rr
  cases r
  obtain ⟨its,rv,p,hz⟩:=I1.tuple hq
  refine L3.zdP (show s1.heap.IsTuple a its.toArray from p) fun h' he hit hsz kp=> ?_
  refine wpAny_pyIter_enum he ?_
  refine ⟨s1.heap.objs.size+1,[s1.heap.objs.size+1,s1.heap.objs.size],_,_,H1,rfl,I1.kept (t':=s1.toks) kp,zlO a _ _ (Nat.succ_ne_self _),⟨⟨_,he⟩,hit⟩,fun b hb=> ?_,q⟩
  have z:b=s1.heap.objs.size+1\/b=s1.heap.objs.size:=by simpa using hb
  rcases z with rfl | rfl
  ·exact I1.fpOk (Nat.le_succ _) (I1.hok.fresh (Nat.le_succ _))
  ·exact I1.fpOk (qaV _) (I1.hok.fresh (qaV _))
end
end L2
namespace L3
open PySem PySem.Spec PyProof.Rows L2
section
variable {X:Cx} {E:XE} {elts:List Expr} {k:Nat} {tpos pos:Pos}
noncomputable def zhn (ds:List D):List D:=(List.range ds.length).map fun (i:Nat)=> .tup [.int i,ds.getD i .non]
theorem znz {K:W.Frag} {ι:Io} {H:Hp} {a:Addr} {vs:List V} {ds:List D} (h: ∀ ι' H',Pass ι H ι' H'->SqT K H' a vs) (rl:zat K ι H ds vs):zqh K ι H (Ite K a) (zhn ds) where
 go:=fun ι' H' i s hi=>by
  have hi:i<ds.length:=by simpa [zhn] using hi
  obtain ⟨v,ev,_⟩:=zat.get rl (i:=i) (d:=ds[i]) (by simp [hi])
  exact ⟨vs,v,h ι' H' s,ev⟩
 yld:=fun ι' H' _ i x H2 s hr hi ⟨T,y,hT,e,e2,hy⟩=>by
  subst e e2
  have hi:i<ds.length:=by simpa [zhn] using hi
  obtain ⟨v,ev,rv⟩:=zat.get rl (i:=i) (d:=ds[i]) (by simp [hi])
  have ey:=hy vs (h ι' H' s)
  rw [ev] at ey
  cases ey
  refine ⟨.inr ⟨T,_,hT,rfl⟩,.tup [.int i,ds[i]],by simp [zhn,hi],?_⟩
  obtain ⟨st,hr2⟩:=zsS.step (.inr ⟨T,[.int i,y],hT,rfl⟩) hr
  have rv2:Rel K ι' (upd H' T (.tup [.int i,y])) ds[i] y:=(rv.pass s).step st
  simp only [Rel]
  exact ⟨T,_,rfl,⟨zaS,hr.nin hT⟩,zat.cons (by simp [Rel]) (zat.cons rv2 zat.nil)⟩
 stop:=fun ι' H' s=>⟨vs,h ι' H' s,by rw [<- rl.length];simp [zhn]⟩
noncomputable def zsb (f:FE):FA:=fun sd=>do
 let d<-f sd
 match d with
 | .tup ds=>pure (zhn ds)
 | _=>M.bad
theorem zoq {l:Expr} {f:FE} {p:Pos} (hm:X.mg "enumerate"=none) (he:SE X E l f) (hg:Gl X "enumerate":=by rfl) (hs:starEach [l] X.env=[(false,eval l X.env)]:=by rfl):SI X E (.Tuple elts k tpos) (.Call (.Name "enumerate" p) [l] [] pos) (zsb f):=by
 refine PI.imp (zpH hg hm (zbs he zcs hs) hs) fun σ H Q ⟨ι,h,sd,L,hh,q⟩=>⟨ι,h,sd,L,hh,Fin.bind q fun d h1 ι1 H1 e1 s1 hr1 q1 v rv=> ?_⟩
 cases d with
 | tup ds=>
  obtain ⟨a,vs,e,h1',h2⟩:=zmc rv
  exact ⟨a,by rw [e],⟨vs,h1' _ _ (Pass.refl _ _)⟩,Fin.out hr1 q1 _ (znz h1' h2)⟩
 | _=>exact qa0 q1
end
end L3
namespace L3
open PySem PyProof.Rows
section
open PySem.SeqAt
open PySem.AutoSeq1 (wpAny_loadPart')
open PySem.MeetsSeq PySem.MeetsSeq2 PySem.MeetsSeq3
section
variable {prog:Program} {w:World} {A:Around} {E:Value->Shared->Prop} {s:Shared}
end
def zkR (h:Heap) (v:Value) (p:Int×List Int):Prop:= ∃ (a q:Addr) (t:Tok) (its:List Value),v= .ref a/\IsTup h a #[.int p.1 t,.ref q]/\IsTup h q its.toArray/\IntsAre its p.2
theorem zkR.keep {h h':Heap} {v:Value} {p:Int×List Int} (k: ∀ b o,h.get? b=some o->h'.get? b=some o):zkR h v p->zkR h' v p:=fun ⟨a,q,t,its,e,⟨o,x1,x2⟩,⟨o',y1,y2⟩,z⟩=>⟨a,q,t,its,e,⟨o,k _ _ x1,x2⟩,⟨o',k _ _ y1,y2⟩,z⟩
end
end L3
namespace L3
open PySem
section
variable {prog:Program} {w:World} {A:Around} {R:Result->Shared->Prop} {I:Addr} {fp wr:List Addr} {n:Nat} {P:Nat->Value->Prop} {St:Nat->Heap->Prop} {h0:Heap}
end
section
variable {prog:Program} {w:World} {A:Around} {E:Value->Shared->Prop} {s:Shared}
end
end L3
namespace L2
open PySem PySem.Spec PyProof.Rows L3
section
variable {X:Cx}
end
end L2
namespace L3
open PySem PySem.Spec PyProof.Rows L2
section
variable {X:Cx} {E:XE}
end
section
variable {X:Cx} {E:XE}
noncomputable def zk9:List D->M D:=zqt fun d=>do let ds<-zkT d;zd5 ds
theorem zjQ:za0 X (.type "list") (zjL X.K E zk9):=by
 refine za0.imp zeX fun xs H Q ⟨ι,h,ds,rl,hr,q⟩=> ?_
 obtain ⟨d,v,e,r,q⟩:=zex rl q
 obtain ⟨a,vs,ds',e',hs,rl',q⟩:=zdG hr r q
 exact ⟨a,vs,by rw [e,e'],zmi hs,fun l hl=>zux hr rl' q hl⟩
noncomputable def zs7 (d:D):M Bool:=do let ds<-zkT d;pure (!ds.isEmpty)
noncomputable def znU (f:FE):FT:=fun sd=>do let d<-f sd;zs7 d
theorem znV {e:Expr} {f:FE} (h:SE X E e f) (he: ∀ whole,isTrue e X.env whole=(do let v<-whole;standAt e.pos;holding [v] (truthy v)):=by intro _;rfl):ST X E e (znU f):=by
 refine PT.imp (znG h he) fun σ H Q ⟨ι,h,sd,L,hh,q⟩=>⟨ι,h,sd,L,hh,Fin.bind q fun d h1 ι1 H1 e1 s1 hr1 q1 v rv=> ?_⟩
 obtain ⟨a,vs,ds',e',hs,rl',q2⟩:=zdG hr1 rv q1
 have hl:=rl'.length
 have ee:(!ds'.isEmpty)= !vs.isEmpty:=by
  cases ds' with
  | nil=>
   cases vs with
   | nil=>rfl
   | cons _ _=>simp at hl
  | cons _ _=>
   cases vs with
   | nil=>simp at hl
   | cons _ _=>rfl
 rw [ee] at q2
 refine ⟨!vs.isEmpty,?_,Fin.out hr1 q2⟩
 rw [e']
 rcases zmi hs with z | z
 ·exact .inl ⟨vs,z,rfl⟩
 ·exact .inr (.inl ⟨vs,z,rfl⟩)
end
end L3
section
namespace TS
set_option autoImplicit false
open PySem PyProof PyProof.Rows
noncomputable abbrev Ga:Bool->Keyed->Array Keyed->Nat->Nat->Nat->StateT SortSt Sem (Option Nat):=sortPriv% PySem.Builtin.gallop
noncomputable abbrev Lt:Keyed->Keyed->StateT SortSt Sem (Option Bool):=sortPriv% PySem.Builtin.lt
noncomputable abbrev El:Array Keyed->Nat->StateT SortSt Sem Keyed:=sortPriv% PySem.Builtin.elem
structure Cx where
 prog:Program
 w:World
 A:Around
 E:Value->Shared->Prop
 s:Shared
 kd:SortKind
 O:KeyOrd
 ky:Value->O.α
 ok:Value->Prop
 cmp: ∀ (E':Value->Shared->Prop) (x y:Value) (Q:Bool->Shared->Prop),ok x->ok y->Q (O.blt (ky x) (ky y)) s->wpAny (model prog w) A (keyLt' kd x y) Q E' s
noncomputable abbrev Cx.wp (c:Cx) {α:Type} (m:StateT SortSt Sem α) (Q:α->SortSt->Prop) (st:SortSt):Prop:=wpS (model c.prog c.w) c.A c.E c.s m Q st
noncomputable def Cx.lt (c:Cx) (x y:Keyed):Bool:=c.O.blt (c.ky x.1) (c.ky y.1)
def Cx.le (c:Cx) (x y:Keyed):Prop:=c.lt y x=false
section
variable {c:Cx}
theorem Cx.le_refl (x:Keyed):c.le x x:=c.O.irrefl _
theorem Cx.le_of_lt {x y:Keyed} (h:c.lt x y=true):c.le x y:=KeyOrd.klt_asymm (O:=c.O) h
theorem Cx.le_trans {x y z:Keyed} (h:c.le x y) (h2:c.le y z):c.le x z:=KeyOrd.kle_trans (O:=c.O) h h2
end
end TS
end
section
namespace TS
set_option autoImplicit false
open PySem PyProof PyProof.Rows
noncomputable abbrev Sg:Nat->StateT SortSt Sem Unit:=sortPriv% PySem.Builtin.setMinGallop
structure Sm (st st':SortSt):Prop where
 k:kindOf st'=kindOf st
 a:arrOf st'=arrOf st
 p:pendingOf st'=pendingOf st
 f:failedOf st'=failedOf st
theorem Sm.refl (st:SortSt):Sm st st:=⟨rfl,rfl,rfl,rfl⟩
theorem Sm.g {st st':SortSt} (h:Sm st st') (n:Nat):Sm st (SortSt.mk' (kindOf st') (arrOf st') (pendingOf st') n (failedOf st')):=⟨h.k,h.a,h.p,h.f⟩
structure Mg (r:Keyed->Keyed->Prop) (O L R T:List Keyed):Prop where
 s:O.Pairwise r
 l: ∀ x,x∈O-> ∀ y,y∈L->r x y
 r: ∀ x,x∈O-> ∀ y,y∈R->r x y
 p:(O++(L++R)).Perm T
section
variable {r:Keyed->Keyed->Prop} {O L R T X:List Keyed}
theorem Mg.symm (h:Mg r O L R T):Mg r O R L T:=⟨h.s,h.r,h.l,(List.Perm.append_left O List.perm_append_comm).trans h.p⟩
theorem Mg.fin (h:Mg r O L R T) (hs:(L++R).Pairwise r):(O++(L++R)).Pairwise r/\(O++(L++R)).Perm T:=by
 refine ⟨?_,h.p⟩
 rw [qaq]
 refine ⟨h.s,hs,fun x hx y hy=> ?_⟩
 rcases qaK.mp hy with hy | hy
 ·exact h.l x hx y hy
 ·exact h.r x hx y hy
end
section
variable {c:Cx}
def srt (c:Cx) (a:Array Keyed):Prop:=a.toList.Pairwise c.le
def okA (c:Cx) (a:Array Keyed):Prop:= ∀ x,x∈a.toList->c.ok x.1
structure MgA (c:Cx) (a b out:Array Keyed) (ia ib:Nat):Prop where
 m:Mg c.le out.toList (a.toList.drop ia) (b.toList.drop ib) (a.toList++b.toList)
 z:out.size=ia+ib
 la:ia<=a.size
 lb:ib<=b.size
def Fi (c:Cx) (a b res:Array Keyed):Prop:=srt c res/\res.toList.Perm (a.toList++b.toList)
variable {a b out:Array Keyed} {ia ib k:Nat}
theorem MgA.done (h:MgA c a b out ia ib) (ha:srt c a) (hb:srt c b) (he:ia=a.size\/ib=b.size):Fi c a b (out++a.extract ia++b.extract ib):=by
 have e:(out++a.extract ia++b.extract ib).toList=out.toList++(a.toList.drop ia++b.toList.drop ib):=by
  simp [List.extract,List.take_of_length_le]
 have hs:(a.toList.drop ia++b.toList.drop ib).Pairwise c.le:=by
  rcases he with he | he
  ·rw [List.drop_eq_nil_of_le (by simp [he]),List.nil_append]
   exact List.Pairwise.sublist (List.drop_sublist _ _) hb
  ·rw [List.drop_eq_nil_of_le (as:=b.toList) (by simp [he]),List.append_nil]
   exact List.Pairwise.sublist (List.drop_sublist _ _) ha
 obtain ⟨h1,h2⟩:=h.m.fin hs
 exact ⟨by unfold srt;rw [e];exact h1,by rw [e];exact h2⟩
end
end TS
end
section
namespace TS
set_option autoImplicit false
open PySem PyProof PyProof.Rows
section
variable {c:Cx} {a b:Array Keyed}
theorem zkx {α:Type} {p:Prop} [Decidable p] {x y:StateT SortSt Sem α} {Q:α->SortSt->Prop} {st:SortSt} (h1:p->c.wp x Q st) (h2: ¬p->c.wp y Q st):c.wp (if p then x else y) Q st:=by
 by_cases h:p
 ·rw [qa4 h];exact h1 h
 ·rw [qa5 h];exact h2 h
noncomputable abbrev StL:=ForInStep (Option (Array Keyed)×Array Keyed×Nat×Nat×Nat×Nat×Nat)
structure Ex (c:Cx) (a b:Array Keyed) (N:Nat) (Q:StL->SortSt->Prop) (st:SortSt):Prop where
 d1: ∀ res t,Fi c a b res->Q (.done (some res,t)) st
 d2: ∀ o i j t,MgA c a b o i j->i+1<a.size->j<b.size->N<=o.size->Q (.done (none,o,i,j,t)) st/\Q (.yield (none,o,i,j,t)) st
 hl: ∀ (o:Array Keyed) (i j:Nat),MgA c a b o i j->i+1=a.size->Fi c a b (o++b.extract j++a.extract i)
 ha:srt c a
 hb:srt c b
 oa:okA c a
 ob:okA c b
 hk:kindOf st=c.kd
section
variable {N:Nat} {Q:StL->SortSt->Prop} {st:SortSt} {o:Array Keyed} {i j g k l u v:Nat}
end
theorem zt2 {β:Type} {n:Nat} {x:β} {f f':Nat->β->StateT SortSt Sem (ForInStep β)} (h: ∀ i r,f i r=f' i r):forIn [0:n] x f=forIn [0:n] x f':=by
 rw [show f=f' from funext fun i=>funext (h i)]
end
end TS
end
section
namespace TS
set_option autoImplicit false
open PySem PyProof PyProof.Rows
section
variable {c:Cx} {a b out:Array Keyed} {na nb at':Nat}
structure MgH (c:Cx) (a b out:Array Keyed) (na nb:Nat):Prop where
 m:Mg (fun x y=>c.le y x) out.toList (a.toList.take na).reverse (b.toList.take nb).reverse (a.toList++b.toList)
 z:out.size+na+nb=a.size+b.size
 la:na<=a.size
 lb:nb<=b.size
theorem zko {l:Array Keyed} (n:Nat) (h:srt c l):((l.toList.take n).reverse).Pairwise (fun x y=>c.le y x):=by
 rw [List.pairwise_reverse]
 exact List.Pairwise.sublist (List.take_sublist _ _) h
theorem zl8 {r:List Keyed} {O L R T:List Keyed} (h:Mg (fun x y=>c.le y x) O L R T) (hs:(L++R).Pairwise (fun x y=>c.le y x)) (e:r=(O++(L++R)).reverse):r.Pairwise c.le/\r.Perm T:=by
 obtain ⟨h1,h2⟩:=h.fin hs
 subst e
 exact ⟨by rw [List.pairwise_reverse];exact h1,(List.reverse_perm _).trans h2⟩
theorem MgH.done (h:MgH c a b out na nb) (ha:srt c a) (hb:srt c b) (he:na=0\/nb=0):Fi c a b (a.extract 0 na++b.extract 0 nb++out.reverse):=by
 have hs:((b.toList.take nb).reverse++(a.toList.take na).reverse).Pairwise (fun x y=>c.le y x):=by
  rcases he with he | he
  ·subst he;simpa using zko nb hb
  ·subst he;simpa using zko na ha
 exact zl8 h.m.symm hs (by simp [List.extract])
theorem MgH.first (h:MgH c a b out na nb) (ha:srt c a) (_hb:srt c b) (he:nb=1) (hl: ∀ y,b[0]? = some y-> ∀ x,x∈a.toList->c.le y x):Fi c a b (b.extract 0 nb++a.extract 0 na++out.reverse):=by
 subst he
 have hlb:=h.lb
 have ed:b.toList.take 1=[b[0]]:=by
  obtain ⟨l⟩:=b
  cases l with
  | nil=>simp at hlb
  | cons x l=>simp
 have hs:((a.toList.take na).reverse++(b.toList.take 1).reverse).Pairwise (fun x y=>c.le y x):=by
  rw [ed,qaq]
  refine ⟨zko na ha,List.pairwise_singleton _ _,?_⟩
  intro x hx y hy
  rw [List.mem_singleton.mp hy]
  exact hl _ (getElem?_pos b 0 (by omega)) x (List.mem_of_mem_take (List.mem_reverse.mp hx))
 exact zl8 h.m hs (by simp [List.extract])
noncomputable abbrev H5:=Option (Array Keyed)×Nat×Nat×Array Keyed×Nat
noncomputable abbrev H6:=Option (Array Keyed)×Nat×Nat×Array Keyed×Nat×Nat
noncomputable abbrev H7:=Option (Array Keyed)×Nat×Nat×Array Keyed×Nat×Nat×Nat
def Hi (c:Cx) (a b:Array Keyed) (N:Nat) (p q:Nat) (o:Array Keyed):Prop:=MgH c a b o p q/\0<p/\1<q/\N<=o.size
structure Ey (c:Cx) (a b:Array Keyed) (N:Nat) (Q:ForInStep H7->SortSt->Prop) (st:SortSt):Prop where
 d1: ∀ res t,Fi c a b res->Q (.done (some res,t)) st
 d2: ∀ p q o t,Hi c a b N p q o->Q (.done (none,p,q,o,t)) st/\Q (.yield (none,p,q,o,t)) st
 hl: ∀ (o:Array Keyed) (i j:Nat),MgH c a b o i j->j=1->Fi c a b (b.extract 0 j++a.extract 0 i++o.reverse)
 ha:srt c a
 hb:srt c b
 oa:okA c a
 ob:okA c b
 hk:kindOf st=c.kd
noncomputable def U4 (a b:Array Keyed) (p q:Nat) (o:Array Keyed) (g k l:Nat):StateT SortSt Sem (ForInStep H7):=El a (p - 1)>>=fun z=>
 if (p - 1==0)=true then pure (.done (some (a.extract 0 (p - 1)++b.extract 0 q++(o.push z).reverse),p - 1,q,o.push z,g,k,l))
 else if (decide (k<7) && decide (l<7))=true then pure (.done (none,p - 1,q,o.push z,g,k,l)) else pure (.yield (none,p - 1,q,o.push z,g,k,l))
noncomputable def U3 (a b:Array Keyed) (p q:Nat) (o:Array Keyed) (g k v:Nat):StateT SortSt Sem (ForInStep H7):=El b (q - 1)>>=fun y=>
 if (q - 1==1)=true then pure (.done (some (b.extract 0 (q - 1)++a.extract 0 p++(o.push y).reverse),p,q - 1,o.push y,g,k,v))
 else El a (p - 1)>>=fun z=>Ga true z b 0 (q - 1) (q - 1 - 1)>>=fun x=>match x with
  | some l=>if q - 1 - l>0 then
    if (l==1)=true then pure (.done (some (b.extract 0 l++a.extract 0 p++(o.push y++(b.extract l (q - 1)).reverse).reverse),p,l,o.push y++(b.extract l (q - 1)).reverse,g,k,q - 1 - l))
    else if (l==0)=true then pure (.done (some (a.extract 0 p++b.extract 0 l++(o.push y++(b.extract l (q - 1)).reverse).reverse),p,l,o.push y++(b.extract l (q - 1)).reverse,g,k,q - 1 - l))
    else U4 a b p l (o.push y++(b.extract l (q - 1)).reverse) g k (q - 1 - l)
   else U4 a b p (q - 1) (o.push y) g k (q - 1 - l)
  | _=>pure (.done (some (a.extract 0 p++b.extract 0 (q - 1)++(o.push y).reverse),p,q - 1,o.push y,g,k,v))
noncomputable def U2 (a b:Array Keyed) (p q:Nat) (o:Array Keyed) (g u v:Nat):StateT SortSt Sem (ForInStep H7):=El b (q - 1)>>=fun y=>Ga false y a 0 p (p - 1)>>=fun x=>match x with
  | some k=>if p - k>0 then
    if (k==0)=true then pure (.done (some (a.extract 0 k++b.extract 0 q++(o++(a.extract k p).reverse).reverse),k,q,o++(a.extract k p).reverse,g,p - k,v))
    else U3 a b k q (o++(a.extract k p).reverse) g (p - k) v
   else U3 a b p q o g (p - k) v
  | _=>pure (.done (some (a.extract 0 p++b.extract 0 q++o.reverse),p,q,o,g,u,v))
noncomputable def Z1 (a b:Array Keyed) (g:Nat) (p q:Nat) (o:Array Keyed) (u v:Nat):StateT SortSt Sem (ForInStep H6):=El b (q - 1)>>=fun y=>El a (p - 1)>>=fun z=>Lt y z>>=fun x=>match x with
 | some w=>if w=true then El a (p - 1)>>=fun z=>if (p - 1==0)=true then pure (.done (some (a.extract 0 (p - 1)++b.extract 0 q++(o.push z).reverse),p - 1,q,o.push z,u+1,0)) else if u+1>=g then pure (.done (none,p - 1,q,o.push z,u+1,0)) else pure (.yield (none,p - 1,q,o.push z,u+1,0))
  else El b (q - 1)>>=fun y=>if (q - 1==1)=true then pure (.done (some (b.extract 0 (q - 1)++a.extract 0 p++(o.push y).reverse),p,q - 1,o.push y,0,v+1)) else if v+1>=g then pure (.done (none,p,q - 1,o.push y,0,v+1)) else pure (.yield (none,p,q - 1,o.push y,0,v+1))
 | _=>pure (.done (some (a.extract 0 p++b.extract 0 q++o.reverse),p,q,o,u,v))
noncomputable def Z2 (a b:Array Keyed) (p q:Nat) (o:Array Keyed) (g u v:Nat):StateT SortSt Sem (ForInStep H7):=
 if g>1 then Sg (g - 1)>>=fun _=>U2 a b p q o (g - 1) u v else Sg g>>=fun _=>U2 a b p q o g u v
section
variable {N:Nat} {Q:ForInStep H7->SortSt->Prop} {st:SortSt} {o:Array Keyed} {p q g k l u v:Nat}
end
end
end TS
end
section
namespace TS
set_option autoImplicit false
open PySem PyProof PyProof.Rows
structure Loc (xs ys:Array Keyed) (lo hi:Nat):Prop where
 p:ys.toList.Perm xs.toList
 o: ∀ i,i<lo\/hi<=i->ys[i]? = xs[i]?
theorem Loc.refl (xs:Array Keyed) (lo hi:Nat):Loc xs xs lo hi:=⟨List.Perm.refl _,fun _ _=>rfl⟩
theorem Loc.trans {xs ys zs:Array Keyed} {lo hi:Nat} (h:Loc xs ys lo hi) (h2:Loc ys zs lo hi):Loc xs zs lo hi:=⟨h2.p.trans h.p,fun i hi=>(h2.o i hi).trans (h.o i hi)⟩
theorem Loc.size {xs ys:Array Keyed} {lo hi:Nat} (h:Loc xs ys lo hi):ys.size=xs.size:=by simpa using h.p.length_eq
section
variable {c:Cx}
def sg (c:Cx) (xs:Array Keyed) (lo hi:Nat):Prop:= ∀ i j x y,lo<=i->i<=j->j<hi->xs[i]? = some x->xs[j]? = some y->c.le x y
end
end TS
end
section
namespace TS
set_option autoImplicit false
open PySem PyProof PyProof.Rows
noncomputable abbrev CR:Nat->Nat->StateT SortSt Sem (Option Nat):=sortPriv% PySem.Builtin.countRun
structure St (c:Cx) (a0:Array Keyed) (p0:Array (Nat×Nat×Nat)) (lo hi:Nat) (st:SortSt):Prop where
 k:kindOf st=c.kd
 f:failedOf st=none
 p:pendingOf st=p0
 l:Loc a0 (arrOf st) lo hi
section
variable {c:Cx} {a0:Array Keyed} {p0:Array (Nat×Nat×Nat)} {lo hi:Nat}
noncomputable def KV (c:Cx) (xs:Array Keyed) (i:Nat):c.O.α:=c.ky (xs[i]?.getD (.none,.none)).1
def up (c:Cx) (xs:Array Keyed) (lo hi:Nat):Prop:= ∀ i j,lo<=i->i<=j->j<hi->c.O.kle (KV c xs i) (KV c xs j)
def ek (c:Cx) (xs:Array Keyed) (lo hi:Nat):Prop:= ∀ i,lo<=i->i<hi->KV c xs i=KV c xs (hi - 1)
theorem St.set {st:SortSt} {xs:Array Keyed} (h:St c a0 p0 lo hi st) (hl:Loc (arrOf st) xs lo hi):St c a0 p0 lo hi (setArr st xs):=⟨h.k,h.f,h.p,h.l.trans hl⟩
theorem St.ok {st:SortSt} (h:St c a0 p0 lo hi st) (ho:okA c a0):okA c (arrOf st):=fun x hx=>ho x (h.l.p.mem_iff.mp hx)
end
end TS
end
section
namespace TS
set_option autoImplicit false
open PySem PyProof PyProof.Rows
section
variable {c:Cx}
noncomputable def chn (c:Cx) (xs:Array Keyed):List (Nat×Nat×Nat)->Nat->Nat->Prop
 | [],a,b=>a=b
 | t::r,a,b=>t.1=a/\0<t.2.1/\sg c xs a (a+t.2.1)/\chn c xs r (a+t.2.1) b
structure Rn (c:Cx) (a0:Array Keyed) (lo:Nat) (st:SortSt):Prop where
 k:kindOf st=c.kd
 f:failedOf st=none
 p:(arrOf st).toList.Perm a0.toList
 h:chn c (arrOf st) (pendingOf st).toList 0 lo
theorem Rn.size {a0:Array Keyed} {lo:Nat} {st:SortSt} (h:Rn c a0 lo st):(arrOf st).size=a0.size:=by simpa using h.p.length_eq
theorem Rn.ok {a0:Array Keyed} {lo:Nat} {st:SortSt} (h:Rn c a0 lo st) (ho:okA c a0):okA c (arrOf st):=fun x hx=>ho x (h.p.mem_iff.mp hx)
end
end TS
end
section
namespace TS
set_option autoImplicit false
open PySem PyProof PyProof.Rows
noncomputable def h6 (h:Heap) (a:Addr) (vs:List Value):Heap:=((h.update a (Obj.mapSeq fun _=> #[])).push (seqObj "tuple" vs.toArray 0)).push (seqObj "list" #[] 0)
def Srt (prog:Program) (w:World) (A:Around) (vs:List Value) (s1:Shared) (kd:SortKind) (O:KeyOrd) (ky:Value->O.α) (ok:Value->Prop):Prop:=
 (∀ v,v∈vs->ok v)/\ ∀ s2:Shared,(∀ b o,s1.heap.get? b=some o->s2.heap.get? b=some o)->
  (2<=vs.length-> ∀ (E:Value->Shared->Prop) (Q:SortKind->Shared->Prop),Q kd s2->wpAny (model prog w) A (keyKind' vs.toArray) Q E s2)/\
  ∀ (E:Value->Shared->Prop) (x y:Value) (Q:Bool->Shared->Prop),ok x->ok y->Q (O.blt (ky x) (ky y)) s2->wpAny (model prog w) A (keyLt' kd x y) Q E s2
end TS
end
namespace TS
set_option autoImplicit false
open PySem PyProof PyProof.Rows PySem.SeqAt
open PySem.MeetsSeq PySem.MeetsSeq2 PySem.MeetsSeq3
inductive Rs (A:Around) (s:Shared) (b:Bool):List ((Value×Value)×Nat)->Bool->Bool->Prop
 | nil (d:Bool):Rs A s b [] d d
 | eq {p q:Value} {i:Nat} {rest:List ((Value×Value)×Nat)} {d r:Bool} (h:EqAt A s p q true) (t:Rs A s b rest d r):Rs A s b (((p,q),i)::rest) d r
 | ne {p q:Value} {i:Nat} {rest:List ((Value×Value)×Nat)} {d l:Bool} (h:EqAt A s p q false) (t: ∀ (prog:Program) (w:World) (E:Value->Shared->Prop) (Q:Bool->Shared->Prop),Q l s->wpAny (model prog w) A (oneLt' (b && i==0) p q) Q E s):Rs A s b (((p,q),i)::rest) d l
section
variable {prog:Program} {w:World} {A:Around} {s:Shared}
def zo0 (h:Heap) (v:Value) (ns:List Int):Prop:= ∃ (a:Addr) (its:List Value),v= .ref a/\IsTup h a its.toArray/\IntsAre its ns
end
end TS
namespace TS
set_option autoImplicit false
open PySem PyProof PyProof.Rows PySem.SeqAt
def ziZ (h:Heap) (v:Value):Prop:= ∃ (a:Addr) (xs:Array Value) (n:Int) (t:Tok),v= .ref a/\IsTup h a xs/\xs[0]? = some (.int n t)
section
variable {prog:Program} {w:World} {A:Around} {s:Shared}
theorem znf {v:Value} (h:ziZ s.heap v) {E:Value->Shared->Prop}:wpAny (model prog w) A (firstOfTuple' v) (fun r s'=>s'=s/\ ∃ n t,r=some (.int n t)) E s:=by
 obtain ⟨a,xs,n,t,rfl,⟨o,e1,e2,m,d⟩,hx⟩:=h
 refine qaW (wpAny_typeOf (T:="tuple") ⟨o,e1,e2⟩ ?_)
 have:(Value.type "tuple" != Value.type "tuple")=false:=by rfl
 rw [this]
 refine qaW (listItems_at e1 d (qaX ⟨rfl,n,t,hx⟩))
theorem zhJ {E:Value->Shared->Prop}: ∀ (vs:List Value),(∀ v,v∈vs->ziZ s.heap v)->wpAny (model prog w) A (vs.mapM firstOfTuple') (fun r s'=>s'=s/\ ∃ us ns,IntsAre us ns/\r=us.map some/\us.length=vs.length) E s
 | [],_=>by rw [List.mapM_nil];exact qaX ⟨rfl,[],[],.nil,rfl,rfl⟩
 | v::vs,h=>by
  rw [List.mapM_cons]
  refine qaW (qaZ (znf (h v (qau ..))) ?_ fun _ _ e=>e)
  rintro r s' ⟨es,n,t,rfl⟩
  rw [es]
  refine qaW (qaZ (zhJ vs fun u hu=>h u (qan _ hu)) ?_ fun _ _ e=>e)
  rintro r s' ⟨es,us,ns,h1,rfl,h3⟩
  rw [es]
  exact qaX ⟨rfl,.int n t::us,n::ns,.cons n t h1,rfl,by simp [h3]⟩
theorem zpS {vs:List Value} (h: ∀ v,v∈vs->ziZ s.heap v) (h0:2<=vs.length) {E:Value->Shared->Prop} {Q:SortKind->Shared->Prop} (hq:Q (tuples' true) s):wpAny (model prog w) A (keyKind' vs.toArray) Q E s:=by
 rw [keyKind'_eq,List.mapM_toArray,map_eq_pure_bind,bind_assoc]
 refine qaW (qaZ (zhJ vs h) ?_ fun _ _ e=>e)
 rintro r s' ⟨rfl,us,ns,h1,rfl,h3⟩
 rw [pure_bind]
 rw [qa4 (by simp)]
 refine qaW (wpAny_rule ?_)
 have e1:Array.filterMap id (us.map some).toArray=us.toArray:=by simp
 rw [e1,oneTypeOnly'_eq,List.mapM_toArray,mapM_typeOf_ints h1]
 simp only [map_pure,pure_bind]
 obtain ⟨u,us',rfl⟩: ∃ u us',us=u::us':=by
  cases us with
  | nil=>simp at h3;omega
  | cons u us'=>exact ⟨u,us',rfl⟩
 have hall:((List.map (fun _=>Value.type "int") (u::us')).toArray.all fun x=>x==Value.type "int")=true:=by
  simp only [List.all_toArray,List.all_map,List.all_eq_true]
  intro _ _
  rfl
 have h0':(List.map (fun _=>Value.type "int") (u::us')).toArray[0]? = some (Value.type "int"):=by simp
 rw [h0']
 simp only [hall,if_true,pure_bind]
 exact qaX hq
end
theorem zo0.keep {h h':Heap} {v:Value} {p:List Int} (k: ∀ b o,h.get? b=some o->h'.get? b=some o):zo0 h v p->zo0 h' v p:=fun ⟨a,its,e,⟨o,x1,x2⟩,z⟩=>⟨a,its,e,⟨o,k _ _ x1,x2⟩,z⟩
structure KR where
 O:KeyOrd
 dflt:O.α
 At:Heap->Value->O.α->Prop
 inj: ∀ {h v p q},At h v p->At h v q->p=q
 keep: ∀ {h h':Heap} {v p},(∀ b o,h.get? b=some o->h'.get? b=some o)->At h v p->At h' v p
 first: ∀ {h v p},At h v p->ziZ h v
 lt: ∀ {prog:Program} {w:World} {A:Around} {s:Shared} {E:Value->Shared->Prop} {Q:Bool->Shared->Prop} {u v p q},At s.heap v p->At s.heap u q->A.units+2<cLine->Q (O.blt p q) s->wpAny (model prog w) A (keyLt' (tuples' true) v u) Q E s
open Classical in
noncomputable def KR.ky (k:KR) (h:Heap) (v:Value):k.O.α:=if e: ∃ p,k.At h v p then e.choose else k.dflt
theorem KR.ky_eq {k:KR} {h:Heap} {v:Value} {p:k.O.α} (e:k.At h v p):k.ky h v=p:=by
 unfold KR.ky
 rw [dif_pos ⟨p,e⟩]
 exact k.inj (Exists.choose_spec ⟨p,e⟩) e
theorem KR.srt (k:KR) {prog:Program} {w:World} {A:Around} {vs:List Value} {s1:Shared} (hr:A.units+2<cLine) (h: ∀ v,v∈vs-> ∃ p,k.At s1.heap v p):Srt prog w A vs s1 (tuples' true) k.O (k.ky s1.heap) (fun v=> ∃ p,k.At s1.heap v p):=by
 refine ⟨h,fun s2 hk=>⟨fun h2 E Q hq=>zpS (fun v hv=> ?_) h2 hq,fun E x y Q hx hy hq=> ?_⟩⟩
 ·obtain ⟨p,hp⟩:=h v hv
  exact k.first (k.keep hk hp)
 ·obtain ⟨p,hp⟩:=hx
  obtain ⟨q,hq'⟩:=hy
  rw [KR.ky_eq hp,KR.ky_eq hq'] at hq
  exact k.lt (k.keep hk hp) (k.keep hk hq') hr hq
end TS
namespace TS
set_option autoImplicit false
open PySem PyProof.Rows
end TS
namespace L2
open PySem PySem.Spec PyProof.Rows TS
section
variable {X:L2.Cx}
end
end L2
namespace L3
open PySem PySem.Spec PyProof.Rows L2 TS
section
variable {X:L2.Cx} {E:XE}
end
end L3
namespace L3
open PySem PySem.Spec PyProof.Rows L2
section
variable {X:Cx} {E:XE}
end
section
variable {X:Cx} {E:XE} {scope:Scope} {N:List Str} {src:List (Option Nat)} {tg iter elt:Expr} {ifs:List Expr} {pos:Pos}
noncomputable def zpb (d:D):M D:=match d with
 | .cel n=>fun h=>match h[n]? with
  | some (.lst ds)=> .ok (.lst ds) (h.set n .dead)
  | _=> .bad
 | _=>M.bad
theorem zmO {e:Expr} {f:FE} (he:SE X E e f):SE X E e (cUn zpb f):=by
 refine PE.imp he fun σ H Q ⟨ι,h,sd,L,hh,q⟩=>⟨ι,h,sd,L,hh,Fin.bind q fun d h1 ι1 H1 e1 s1 hr1 q1 v rv=> ?_⟩
 cases d with
 | cel n=>
  simp only [Rel] at rv
  obtain ⟨a,rfl,hn⟩:=rv
  rcases hn with hn | hn
  rotate_left
  ·have hd:=hr1.dead n hn
   have:Fin X.K E ι1 H1 (match h1[n]? with | some (.lst ds)=>R.ok (D.lst ds) (h1.set n .dead) | _=> .bad) _:=q1
   rw [hd] at this
   exact qa0 this
  have hlt:=(qac.mp hn).1
  have hl:=hr1.len
  obtain ⟨c,hc⟩: ∃ c,h1[n]? = some c:=⟨h1[n],by simp [hl,hlt]⟩
  obtain ⟨ds,vs,rfl,e2,rl⟩: ∃ ds vs,c= .lst ds/\H1 a=some (.lst vs)/\zat X.K ι1 H1 ds vs:=by
   obtain ⟨o,e1,e2⟩:=hr1.at_ n a c hn hc
   cases c with
   | lst ds=>obtain ⟨vs,rfl,rl⟩:=e2;exact ⟨ds,vs,rfl,e1,rl⟩
   | dic kvs=>
    have:Fin X.K E ι1 H1 (match h1[n]? with | some (.lst ds)=>R.ok (D.lst ds) (h1.set n .dead) | _=> .bad) _:=q1
    rw [hc] at this
    exact qa0 this
   | dead=>exact qa0 e2
  have q2:Fin X.K E ι1 H1 (.ok (.lst ds) (h1.set n .dead)) fun d ι' H'=> ∀ v,Rel X.K ι' H' d v->Q v H':=by
   have:Fin X.K E ι1 H1 (match h1[n]? with | some (.lst ds)=>R.ok (D.lst ds) (h1.set n .dead) | _=> .bad) _:=q1
   rw [hc] at this
   exact this
  have mem: ∀ b,some b∈ι1.c.set n none->some b∈ι1.c:=fun b hb=>by
   rcases List.mem_or_eq_of_mem_set hb with z | z
   ·exact z
   ·cases z
  have st:zch ι1 H1 ⟨ι1.c.set n none,ι1.x⟩ H1:=by
   refine ⟨fun k o hk=> ?_,fun b hb=> .inl (mem b hb),rfl,fun _ _=>rfl,fun _ _ h _=>h⟩
   by_cases hkn:n=k
   ·subst hkn
    right
    show (ι1.c.set n none)[n]? = _
    rw [qai hlt]
   ·left
    show (ι1.c.set n none)[k]? = _
    rw [qao hkn]
    exact hk
  have hna:some a∉ι1.c.set n none:=fun z=>by
   obtain ⟨k,hk⟩:=List.getElem?_of_mem z
   by_cases hkn:n=k
   ·subst hkn
    rw [qai hlt] at hk
    cases hk
   ·rw [qao hkn] at hk
    exact hkn (hr1.inj n k a hn hk)
  have hrn:zbg X.K ⟨ι1.c.set n none,ι1.x⟩ H1 (h1.set n .dead):=by
   refine ⟨by simp [hl],fun i j b hi hj=> ?_,fun k b c' hk hc'=> ?_,fun k hk=> ?_,fun b hb=>⟨(hr1.hidt b hb).1,fun z=>(hr1.hidt b hb).2 (mem b z)⟩⟩
   ·have hi:(ι1.c.set n none)[i]? = some (some b):=hi
    have hj:(ι1.c.set n none)[j]? = some (some b):=hj
    have key: ∀ k,(ι1.c.set n none)[k]? = some (some b)->ι1.c[k]? = some (some b):=fun k hk=>by
     by_cases hkn:n=k
     ·subst hkn
      rw [qai hlt] at hk
      cases hk
     ·rw [qao hkn] at hk
      exact hk
    exact hr1.inj i j b (key i hi) (key j hj)
   ·have hk:(ι1.c.set n none)[k]? = some (some b):=hk
    by_cases hkn:n=k
    ·subst hkn
     rw [qai hlt] at hk
     cases hk
    ·rw [qao hkn] at hk hc'
     obtain ⟨o',x2,x3⟩:=hr1.at_ k b c' hk hc'
     exact ⟨o',x2,x3.pass st.pass⟩
   ·have hk:(ι1.c.set n none)[k]? = some none:=hk
    by_cases hkn:n=k
    ·subst hkn
     rw [qai (by omega)]
    ·rw [qao hkn] at hk ⊢
     exact hr1.dead k hk
  refine q2 _ _ st hrn (.ref a) ?_
  simp only [Rel]
  refine ⟨a,vs,rfl,⟨e2,fun z=> ?_⟩,rl.step st⟩
  rcases z with z | z
  ·exact hna z
  ·exact (hr1.hidt a z).2 (List.mem_of_getElem? hn)
 | _=>exact qa0 q1
end
end L3
namespace L3
open PySem
open Sem (wp)
open AutoSeq1 (wpAny_loadPart')
section
variable {prog:Program} {w:World} {A:Around} {E:Value->Shared->Prop} {s:Shared}
theorem ze3 {it l:Addr} {i:Nat} {items:Array Value} {Q:Value->Shared->Prop} (hh:zkg A s.heap) (hit:s.heap.IsListIter it l i) (hl:s.heap.IsList l items) (hx:items[i]? = none)
  (hE: ∀ h' e,Heap.ExtBut it s.heap h'->(∃ o,h'.get? e=some o/\o.cls= .type "StopIteration")->E (.ref e) {s with heap:=h'}):wpAny (model prog w) A (Builtin.SmallTypes.nextOf (.ref it)) Q E s:=by
 obtain ⟨o,h1,h2,h3⟩:=id hit
 obtain ⟨ol,l1,_,nl,l2⟩:=hl
 unfold Builtin.SmallTypes.nextOf
 refine qaW (wpAny_callSpecial?_slot (name:=Str.ofString "__next__") hit.typeIs slot_listiter_next
   (wpAny_call_entry slot_listiter_next hit.typeIs entry_listiter_next ?_ (args_listiter_next _)))
 show wpAny _ _ (field (.ref it) 0>>=_) _ _ s
 refine qaW (wpAny_field h1 h3 (x:= .ref l) rfl ?_)
 show wpAny _ _ (if (Value.ref l==Value.none)=true then _ else _) _ _ s
 rw [qa5 (show ¬(Value.ref l==Value.none)=true from nofun)]
 show wpAny _ _ (field (.ref it) 1>>=_) _ _ s
 refine qaW (wpAny_field h1 h3 (x:= .int i 0) rfl ?_)
 show wpAny _ _ (seqItems? (.ref l)>>=_) _ _ s
 refine qaW (wpAny_seqItems l1 l2 ?_)
 simp only [qaB,hx]
 refine qaW (wpAny_rule (qaW (wpAny_setField h1 h3 (by simp) ?_)))
 show wpAny _ _ (newExc (.type "StopIteration") []>>=_) _ _ _
 refine qaW ?_
 simp only [newExc,newTuple]
 refine qaW (qaC ?_ (by size_fits))
 refine qaW (m:=firstArgMember _ _) (wpAny_of_eq (a:=Value.none) (by first | rfl | (simp only [firstArgMember];rfl)) ?_)
 refine qaC ?_ (by size_fits)
 rcases hh with hh | ⟨ha,cls,head,hh,hX⟩
 ·simp only [raiseNew]
  refine qaW (wpAny_handled ?_)
  first | rw [show A.in1.handled=none from hh] | rw [hh]
  refine qaW (qaX (wpAny_throw ?_))
  exact hE _ _ (((Heap.SameBut.update ..).extBut.push _).push _) ⟨_,qar _ rfl,rfl⟩
 have nit:ha≠it:=fun z=>by
  subst z
  obtain ⟨ob,vs,x1,_,_,x4,x5,x6⟩:=hX
  rw [h1] at x1
  cases x1
  rw [h3] at x4
  cases x4
  simp at x5
 have hX1:zic (s.heap.update it (Obj.mapFields (·.setIfInBounds 0 Value.none))) ha cls head:=by
  obtain ⟨ob,vs,x1,x2⟩:=hX
  exact ⟨ob,vs,(qah _ _ (Ne.symm nit)).trans x1,x2⟩
 obtain ⟨ob,vs,x1,x2⟩:=hX1
 have y1:=qag {cls:= .type "tuple",dict:=none,data:= .seq [].toArray} x1
 refine zcZ (h:=ha) (cls:=cls) (head:=head) hh ⟨ob,vs,qag _ y1,x2⟩ (qar _ rfl) rfl (by simp;omega) (qaR (qaQ y1)) ?_
 refine hE _ _ (fun b o hb z=> ?_) ⟨_,qal _ (qar _ rfl) rfl,rfl⟩
 have z1:(s.heap.update it (Obj.mapFields (·.setIfInBounds 0 Value.none))).get? b=some o:=(qah _ _ (Ne.symm hb)).trans z
 have z2:=qag {cls:= .type "tuple",dict:=none,data:= .seq [].toArray} z1
 rw [qah _ _ (Nat.ne_of_gt (qaQ z2))]
 exact qag _ z2
end
theorem zfj {prog:Program} {w:World} {A:Around} (it l:Addr) (hne:l≠it) (items:Array Value):
  Draws prog w A.in1 it (it::l::zbn A) items.size (fun i v=>items[i]? = some v) (fun i h=>h.IsListIter it l i/\h.IsList l items/\zkg A h/\it∉zbn A) where
 live:=fun _ _ st=>let ⟨o,ho,_⟩:=st.1;⟨o,ho⟩
 frame:=fun _ _ _ st hk=>⟨st.1.at fun o e=>hk it (by simp) o e,st.2.1.at fun o e=>hk l (by simp) o e,st.2.2.1.keep fun b hb o e=>hk b (by simp [hb]) o e,st.2.2.2⟩
 item:=fun i s Q E hi st hQ=>by
  refine wpAny_nextOf_list_item st.1 st.2.1 (x:=items[i]) (by simp [hi]) fun h' hit' hs'=> ?_
  exact hQ _ h' s.toks (by simp [hi]) ⟨hit',st.2.1.extBut hs'.extBut hne,st.2.2.1.keep fun b hb o e=>(hs'.2 b fun z=>st.2.2.2 (z▸hb)).trans e,st.2.2.2⟩ hs'
 done:=fun s Q E st hE=>ze3 (A:=A.in1) st.2.2.1 st.1 st.2.1 (by simp) hE
end L3
namespace L2
open PySem PySem.Spec PyProof.Rows
noncomputable def ztn (K:W.Frag) (a:Addr):It:=
 ⟨fun i H=> ∃ xs x,SqL K H a xs/\xs[i]? = some x,fun i H x H'=> ∃ T y,H T=none/\H'=upd H T (.tup [.int i,y])/\x= .ref T/\ ∀ xs,SqL K H a xs->xs[i]? = some y,fun i H=> ∃ xs,SqL K H a xs/\xs.length=i⟩
theorem zj8 {P:Program} {w:World} {K:W.Frag} {elts:List Expr} {k:Nat} {pos:Pos} (a e it:Addr) (hei:e≠it):zqm P w K (.Tuple elts k pos) (ztn K a) [e,it] e (fun i h=>(∃ old,IsEnum h e it i old)/\h.IsListIter it a i) where
 mem:=by simp
 obj:=fun i h st b hb=>by
  obtain ⟨⟨old,he⟩,o,ho,hc,hd⟩:=st
  have z:b=e\/b=it:=by simpa using hb
  rcases z with rfl | rfl
  ·exact ⟨_,he,fun v z=>by cases z⟩
  ·exact ⟨o,ho,fun v z=>by rw [hd] at z;cases z⟩
 keep:=fun i h h' st k=>⟨let ⟨old,he⟩:=st.1;⟨old,k e (by simp) _ he⟩,st.2.at fun o q=>k it (by simp) o q⟩
 item:=by
  intro X hP hw hK i pins s σ H E I hf st hg
  subst hP hw hK
  obtain ⟨xs,y,hq,hx⟩:=hg
  obtain ⟨its,rv,p,hz⟩:=I.list hq
  obtain ⟨u,hu,ru⟩:=rv.get hx
  obtain ⟨⟨old,he⟩,hit⟩:=st
  have hfe:=hf e (by simp)
  have hfi:=hf it (by simp)
  obtain ⟨ot,ht,hct,nt,hdt⟩:=p.isList
  obtain ⟨oi,hi,hci,hdi⟩:=id hit
  have hai:a≠it:=fun z=>by
   subst z
   rw [ht] at hi
   cases hi
   rw [hdt] at hdi
   cases hdi
  have hea:e≠a:=fun z=>by
   subst z
   have he':s.heap.get? e=_:=he
   rw [ht] at he'
   cases he'
   cases hdt
  have hin:it∉L3.zbn X.A:=fun z=>by
   rcases I.hand with q | ⟨ha,cls,head,q,ob,vs,x1,_,_,x4,x5,_⟩
   ·unfold L3.zbn at z;rw [q] at z;simp at z
   ·unfold L3.zbn at z
    rw [q] at z
    have:it=ha:=by simpa using z
    subst this
    rw [hi] at x1
    cases x1
    rw [hdi] at x4
    cases x4
    simp at x5
  have hen:e∉L3.zbn X.A:=fun z=>by
   rcases I.hand with q | ⟨ha,cls,head,q,ob,vs,x1,_,_,x4,x5,_⟩
   ·unfold L3.zbn at z;rw [q] at z;simp at z
   ·unfold L3.zbn at z
    rw [q] at z
    have:e=ha:=by simpa using z
    subst this
    have he':s.heap.get? e=_:=he
    rw [x1] at he'
    cases he'
    cases x4
    simp at x5
  have hlt:i<its.toArray.size:=by
   have:=(qac.mp hu).1
   simpa using this
  refine wpAny_pyNext_enum_itemD (L3.zfj (A:=X.A) it a hai its.toArray) he ⟨hit,p.isList,I.hand,hin⟩ hlt hei (by simp [hei,hea,hen]) fun x h1 tk hP ho hs' hT hsz hk=> ?_
  have hxu:x=u:=by
   have:its[i]? = some x:=by simpa using hP
   rw [hu] at this
   exact (Option.some.inj this).symm
  subst hxu
  refine ⟨_,rfl,wpAny_letOwnedTupleGo_enum ho fun h2 he2 hs2=> ?_⟩
  have het:e≠s.heap.objs.size:=qaR (qaQ he)
  have hit':it≠s.heap.objs.size:=qaR (qaQ hi)
  have fresh:=I.hok.fresh (qaV s.heap.objs.size)
  have I1:Inv X pins σ (upd H s.heap.objs.size (.tup [.int i,y])) {s with heap:=s.heap.push {cls:= .type "tuple",data:= .seq #[.int i tk,x]},toks:=tk+1}:=
   I.laid (t':=tk+1) (fun b o q=>qag _ q) (qaV _) (show zbU X.prog X.w _ _ _ (.tup [.int i,y]) from ⟨by show 2<=sizeLine;decide,[.int i tk,x],.cons ⟨tk,rfl⟩ (.cons ru .nil),IsTup.new _ _⟩)
  have fe:zia X pins (upd H s.heap.objs.size (.tup [.int i,y])) e:=⟨by rw [zaF het];exact hfe.1,hfe.2⟩
  have fi:zia X pins (upd H s.heap.objs.size (.tup [.int i,y])) it:=⟨by rw [zaF hit'];exact hfi.1,hfi.2⟩
  have I2:Inv X pins σ (upd H s.heap.objs.size (.tup [.int i,y])) {s with heap:=h1,toks:=tk+1}:=I1.turned2 (t':=tk+1) (h':=h1) (fun b o hb1 hb2 q=>by
    rcases Heap.get?_push_cases q with ⟨z1,z2⟩ | z
    · rw [z1,z2];exact hT
    · exact hk b o hb1 hb2 z) fe fi
  obtain ⟨f0,f1,f2,f3,f4,f5⟩:=fe
  have I3:Inv X pins σ (upd H s.heap.objs.size (.tup [.int i,y])) {s with heap:=h2,toks:=tk+1}:=I2.turned (t':=tk+1) (fun b o hb q=>(hs2.2 b hb).trans q) f0 f1 f3 f4 f5
  refine ⟨.ref s.heap.objs.size,_,I3,rfl,⟨s.heap.objs.size,y,fresh,rfl,rfl,fun ys hy=>by rw [I.list_inj hy hq];exact hx⟩,⟨⟨x,by simpa using he2⟩,hs'.1.at fun o q=>(hs2.2 it (Ne.symm hei)).trans q⟩,fun b hb=> ?_⟩
  have z:b=e\/b=it:=by simpa using hb
  rcases z with rfl | rfl
  ·exact f0
  ·exact fi.1
 done:=by
  intro X hP hw hK i pins s σ H E I hf st hg
  subst hP hw hK
  obtain ⟨xs,hq,hx⟩:=hg
  obtain ⟨its,rv,p,hz⟩:=I.list hq
  obtain ⟨⟨old,he⟩,hit⟩:=st
  have hfi:=hf it (by simp)
  obtain ⟨ot,ht,hct,nt,hdt⟩:=p.isList
  obtain ⟨oi,hi,hci,hdi⟩:=id hit
  have hai:a≠it:=fun z=>by
   subst z
   rw [ht] at hi
   cases hi
   rw [hdt] at hdi
   cases hdi
  have hin:it∉L3.zbn X.A:=fun z=>by
   rcases I.hand with q | ⟨ha,cls,head,q,ob,vs,x1,_,_,x4,x5,_⟩
   ·unfold L3.zbn at z;rw [q] at z;simp at z
   ·unfold L3.zbn at z
    rw [q] at z
    have:it=ha:=by simpa using z
    subst this
    rw [hi] at x1
    cases x1
    rw [hdi] at x4
    cases x4
    simp at x5
  have hn:its.toArray.size=i:=by
   have:=rv.length
   simp
   omega
  subst hn
  obtain ⟨f0,f1,f2,f3,f4,f5⟩:=hfi
  exact wpAny_pyNext_enum_endD (L3.zfj (A:=X.A) it a hai its.toArray) he ⟨hit,p.isList,I.hand,hin⟩ fun h' hx'=>⟨rfl,I.turned (t':=s.toks) (fun b o hb q=>hx' b o hb q) f0 f1 f3 f4 f5⟩
 self:=fun _ _ _ _ _ st h=>let ⟨⟨_,he⟩,_⟩:=st;wpAny_pyIter_enum he h
section
variable {X:Cx} {elts:List Expr} {k:Nat} {tpos:Pos}
noncomputable def zqx (K:W.Frag) (ta:TA):TI:=fun σ H R=>ta σ H fun vs H1=> ∃ a,vs=[.ref a]/\(∃ xs,SqL K H1 a xs)/\R (ztn K a) H1
theorem znC {l:Expr} {ta:TA} {p pos:Pos} (hg:Gl X "enumerate") (hm:X.mg "enumerate"=none) (ha:PA X [l] ta) (hs:starEach [l] X.env=[(false,eval l X.env)]:=by rfl):
  PI X (.Tuple elts k tpos) (.Call (.Name "enumerate" p) [l] [] pos) (zqx X.K ta):=by
 intro pins s σ H R I h
 refine Call_ (zgj I hg hm PyProof.Rows.boot_enumerate (PyProof.Rows.callWith_type1 (thn (ha pos pins s σ H _ I h) fun us s1 ⟨vs,H1,I1,r1,q1⟩=> ?_) hs rfl))
 obtain ⟨a,e,⟨xs,hq⟩,q⟩:=q1
 subst e
 cases r1 with
 | cons r rr=>
  cases rr
  cases r
  obtain ⟨its,rv,p,hz⟩:=I1.list hq
  refine PySem.call_enumerate_list p.isList fun h' he hit hsz kp=> ?_
  refine wpAny_pyIter_enum he ?_
  refine ⟨s1.heap.objs.size+1,[s1.heap.objs.size+1,s1.heap.objs.size],_,_,H1,rfl,I1.kept (t':=s1.toks) kp,zj8 a _ _ (Nat.succ_ne_self _),⟨⟨_,he⟩,hit⟩,fun b hb=> ?_,q⟩
  have z:b=s1.heap.objs.size+1\/b=s1.heap.objs.size:=by simpa using hb
  rcases z with rfl | rfl
  ·exact I1.fpOk (Nat.le_succ _) (I1.hok.fresh (Nat.le_succ _))
  ·exact I1.fpOk (qaV _) (I1.hok.fresh (qaV _))
end
end L2
namespace L3
open PySem PySem.Spec PyProof.Rows L2
section
variable {X:Cx} {E:XE} {elts:List Expr} {k:Nat} {tpos pos:Pos}
theorem zlK {K:W.Frag} {ι:Io} {H:Hp} {a:Addr} {vs:List V} {ds:List D} (h: ∀ ι' H',Pass ι H ι' H'->SqL K H' a vs) (rl:zat K ι H ds vs):zqh K ι H (ztn K a) (zhn ds) where
 go:=fun ι' H' i s hi=>by
  have hi:i<ds.length:=by simpa [zhn] using hi
  obtain ⟨v,ev,_⟩:=zat.get rl (i:=i) (d:=ds[i]) (by simp [hi])
  exact ⟨vs,v,h ι' H' s,ev⟩
 yld:=fun ι' H' _ i x H2 s hr hi ⟨T,y,hT,e,e2,hy⟩=>by
  subst e e2
  have hi:i<ds.length:=by simpa [zhn] using hi
  obtain ⟨v,ev,rv⟩:=zat.get rl (i:=i) (d:=ds[i]) (by simp [hi])
  have ey:=hy vs (h ι' H' s)
  rw [ev] at ey
  cases ey
  refine ⟨.inr ⟨T,_,hT,rfl⟩,.tup [.int i,ds[i]],by simp [zhn,hi],?_⟩
  obtain ⟨st,hr2⟩:=zsS.step (.inr ⟨T,[.int i,y],hT,rfl⟩) hr
  have rv2:Rel K ι' (upd H' T (.tup [.int i,y])) ds[i] y:=(rv.pass s).step st
  simp only [Rel]
  exact ⟨T,_,rfl,⟨zaS,hr.nin hT⟩,zat.cons (by simp [Rel]) (zat.cons rv2 zat.nil)⟩
 stop:=fun ι' H' s=>⟨vs,h ι' H' s,by rw [<- rl.length];simp [zhn]⟩
noncomputable def zkC (f:FE):FA:=fun sd=>do
 let d<-f sd
 match d with
 | .lst ds=>pure (zhn ds)
 | _=>M.bad
theorem zlJ {l:Expr} {f:FE} {p:Pos} (hm:X.mg "enumerate"=none) (he:SE X E l f) (hg:Gl X "enumerate":=by rfl) (hs:starEach [l] X.env=[(false,eval l X.env)]:=by rfl):SI X E (.Tuple elts k tpos) (.Call (.Name "enumerate" p) [l] [] pos) (zkC f):=by
 refine PI.imp (znC hg hm (zbs he zcs hs) hs) fun σ H Q ⟨ι,h,sd,L,hh,q⟩=>⟨ι,h,sd,L,hh,Fin.bind q fun d h1 ι1 H1 e1 s1 hr1 q1 v rv=> ?_⟩
 cases d with
 | lst ds=>
  obtain ⟨a,vs,e,h1',h2⟩:=zmf rv
  exact ⟨a,by rw [e],⟨vs,h1' _ _ (Pass.refl _ _)⟩,Fin.out hr1 q1 _ (zlK h1' h2)⟩
 | _=>exact qa0 q1
end
end L3
namespace L2
open PySem PySem.Spec PyProof.Rows
section
variable {κ:Type} [DecidableEq κ]
noncomputable def zuz (kvs:List (κ×V)) (k:κ) (v:V):List (κ×V):=
 if (kvs.any fun kv=>decide (kv.1=k))=true then kvs.map (fun kv=>if kv.1=k then (kv.1,v) else kv) else kvs++[(k,v)]
theorem KV.any {kvs:List (κ×V)} {vs:List (κ×Value)} (r:KV kvs vs) (k:κ):(kvs.any fun kv=>decide (kv.1=k))=vs.any fun kv=>decide (kv.1=k):=by
 unfold KV at r
 induction r with
 | nil=>rfl
 | cons h t ih=>rw [List.any_cons,List.any_cons,ih,h.1]
theorem KV.repl {kvs:List (κ×V)} {vs:List (κ×Value)} (r:KV kvs vs) (k:κ) {y:V} {u:Value} (ry:zb5 y u):
  KV (kvs.map fun kv=>if kv.1=k then (kv.1,y) else kv) (vs.map fun kv=>if kv.1=k then (kv.1,u) else kv):=by
 unfold KV at r ⊢
 induction r with
 | nil=>exact .nil
 | @cons p q ps qs h t ih=>
  rw [qaM,qaM]
  refine .cons ?_ ih
  obtain ⟨h1,h2⟩:=h
  by_cases e:p.1=k
  ·rw [qa4 e,qa4 (h1.symm.trans e)];exact ⟨h1,ry⟩
  ·rw [qa5 e,qa5 (fun z=>e (h1.trans z))];exact ⟨h1,h2⟩
theorem KV.put {kvs:List (κ×V)} {vs:List (κ×Value)} (r:KV kvs vs) (k:κ) {y:V} {u:Value} (ry:zb5 y u):KV (zuz kvs k y) (stored vs k u):=by
 unfold zuz stored
 rw [r.any k]
 by_cases e:(vs.any fun kv=>decide (kv.1=k))=true
 ·rw [qa4 e,qa4 e];exact r.repl k ry
 ·rw [qa5 e,qa5 e];exact Paired.snoc r ⟨rfl,ry⟩
theorem KV.length {kvs:List (κ×V)} {vs:List (κ×Value)} (r:KV kvs vs):kvs.length=vs.length:=Paired.length r
end
section
variable {X:Cx}
end
end L2
namespace L3
open PySem PySem.Spec PyProof.Rows L2
section
variable {X:L2.Cx} {E:XE}
end
open LT
section
variable {h:Hh}
end
end L3
namespace L3
open PySem PySem.Spec PyProof.Rows L2
structure Fd (K:W.Frag) (x:Str) (st:Stmt) (a:Addr) (d:FuncData):Prop where
 e:W.nsIn K mainGlobals x=some (some (.ref a))
 F:Fun K x x st a d
section
variable {X:Cx} {E:XE}
end
open LT
def Gro (h h':Hh):Prop:= ∃ t,h'=h++t
theorem Gro.refl {h:Hh}:Gro h h:=⟨[],by simp⟩
theorem Gro.trans {h h1 h2:Hh} (a:Gro h h1) (b:Gro h1 h2):Gro h h2:=by
 obtain ⟨t,rfl⟩:=a
 obtain ⟨u,rfl⟩:=b
 exact ⟨t++u,by simp⟩
theorem Gro.get {h h':Hh} {n:Nat} {c:C} (g:Gro h h') (e:h[n]? = some c):h'[n]? = some c:=by
 obtain ⟨t,rfl⟩:=g
 rw [qad (qac.mp e).1]
 exact e
theorem Gro.ext {b:Nat} {h h':Hh} (q:Bx b h) (g:Gro h h'):Ext b h h':=by
 obtain ⟨z,e⟩:=q
 exact ⟨⟨z,g.get e⟩,fun n c _ e=>g.get e⟩
def Ev {α:Type} (m:M α) (a:α):Prop:= ∀ h, ∃ h',m h= .ok a h'/\Gro h h'
section
variable {α β:Type} {m:M α} {a:α} {f:α->M β} {b:β} {h:Hh} {P:α->Hh->Prop}
theorem Ev.pure:Ev (Pure.pure a:M α) a:=fun h=>⟨h,rfl,.refl⟩
theorem Ev.of (e:m=Pure.pure a):Ev m a:=e▸ .pure
theorem Ev.bind (x:Ev m a) (y:Ev (f a) b):Ev (m>>=f) b:=fun h=>by
 obtain ⟨h1,e1,g1⟩:=x h
 obtain ⟨h2,e2,g2⟩:=y h1
 refine ⟨h2,?_,g1.trans g2⟩
 show M.bind m f h=_
 unfold M.bind
 rw [e1]
 exact e2
theorem Ev.wp (x:Ev m a) (k: ∀ h',Gro h h'->P a h'):wp m h P:=by
 obtain ⟨h1,e1,g1⟩:=x h
 exact ⟨a,h1,e1,k h1 g1⟩
theorem Ev.of_wp (x: ∀ h,L3.wp m h fun r h'=>r=a/\Gro h h'):Ev m a:=fun h=>by
 obtain ⟨r,h1,e1,rfl,g⟩:=x h
 exact ⟨h1,e1,g⟩
theorem Ev.noX (x:Ev m a):Ev (L3.noX m) a:=fun h=>by
 obtain ⟨h1,e1,g1⟩:=x h
 refine ⟨h1,?_,g1⟩
 unfold L3.noX
 rw [e1]
end
@[simp] theorem znh {α:Type} {a:α}:noX (pure a:M α)=pure a:=rfl
theorem zsq {α:Type} {m:M α} {h:Hh} {P:α->Hh->Prop} (q:wp m h P):wp (noX m) h P:=by
 obtain ⟨a,h',e,q⟩:=q
 refine ⟨a,h',?_,q⟩
 unfold noX
 rw [e]
noncomputable def zgo {α:Type} (c:String):M α:=fun h=> .exc c h
@[simp] theorem zgp {α β:Type} {c:String} {f:α->M β}:((zgo c:M α)>>=f)=zgo c:=rfl
@[simp] theorem znu {c:String} {sd:Sd}:zgg c sd=zgo c:=rfl
theorem zoV {names:List String} {gb:FS} {F:List D->M D} {sd:Sd} {i:Nat} {o:Out} (x:Ev (gb sd) o):Ev (ziF names gb i F sd) o:=fun h=>by
 obtain ⟨h1,e1,g1⟩:=x h
 refine ⟨h1,?_,g1⟩
 unfold ziF
 rw [e1]
theorem zq3 {n:Nat} {Fs:List (List D->M D)} {fi:FE} {fs:FA} {sd:Sd}:zp1 n Fs fi fs sd=(do let i<-fi sd;let F<-zhB Fs i;let ds<-fs sd;zap n F ds):=rfl
noncomputable def tI (xs:List Int):D:= .tup (xs.map D.int)
noncomputable def zbt (o:List Int×Int):D:= .tup [tI o.1,.int o.2]
noncomputable def zaK (m:Int) (os:List (List Int×Int)):D:= .tup [.int m,.tup (os.map zbt)]
structure Stk (m:Int) (os:List (List Int×Int)):Prop where
 m0:1<=m
 m1:m<=10
 len:os.length<=12
 up: ∀ o∈os,o.1.Pairwise (· < ·)
 bd: ∀ o∈os, ∀ x∈o.1,0<=x/\x<m
 ne: ∀ o∈os,o.1≠[]
 pos: ∀ o∈os,0<o.2
theorem Stk.olen {m:Int} {os:List (List Int×Int)} (s:Stk m os): ∀ o∈os,o.1.length<=10:=fun o ho=>by
 have h:=zgx (m:=m) (ts:=o.1.map D.int) (l:=0) (zb4.mpr ⟨s.up o ho,fun x hx=>s.bd o ho x hx⟩) (by have:=s.m0;omega)
 rw [qaH] at h
 have:=s.m1
 omega
theorem zlT {fo fe:FE} {sd:Sd}:ziI fo fe sd=(do let x<-fo sd;zck x;let y<-fe sd;zeb x y):=rfl
theorem zoI {n:Nat}:zck (.cel n)=(do let _<-zar n;pure ()):=rfl
theorem znB {n:Nat} {zs:List D}:zeb (.cel n) (.tup zs)=(do let ds<-zar n;fits (ds.length+zs.length);zbX n (ds++zs);pure .non):=rfl
theorem zgq {xs:List Int} {m:Int} (m0:0<=m) (h:xs.Pairwise (· < ·)) (b: ∀ x∈xs,0<=x/\x<m):(xs.length:Int)<=m:=by
 have:=zgx (m:=m) (ts:=xs.map D.int) (l:=0) (zb4.mpr ⟨h,b⟩) m0
 rw [qaH] at this
 omega
theorem znP {xs:List Int} {m:Int} (m0:0<=m) (b: ∀ x∈xs,0<=x/\x<m):((zeF xs).length:Int)<=m:=zgq m0 (zeJ xs) fun x hx=>b x (zeD.mp hx)
theorem ziB {xs:List Int} {m:Int} (m0:0<=m) (m1:m<=60) (b: ∀ x∈xs,0<=x/\x<m):(xs.foldl step_dedup []).length<64:=by
 have h:=znP m0 b
 unfold zeF at h
 rw [(za6 _).length_eq] at h
 omega
theorem zhH {n:Nat} {h:Hh} {xs:List Int} {P:D->Hh->Prop} (e:h[n]? = some (.lst (xs.map D.int))) (h1:(xs.foldl step_dedup []).length<64) (h2:xs.length<4000) (k:P (.lst ((zeF xs).map D.int)) h):wp (zb2 (.cel n)) h P:=by
 unfold zb2
 show wp (zar n>>=_) h P
 rw [zas,zbd e]
 show wp (do let ns<-ofO (zf2 (xs.map D.int));if (ns.foldl step_dedup []).length<64/\ns.length<4000 then pure (.lst ((zeF ns).map D.int)) else M.bad:M D) h P
 rw [zei]
 show wp (if (xs.foldl step_dedup []).length<64/\xs.length<4000 then (pure (.lst ((zeF xs).map D.int)):M D) else M.bad) h P
 rw [qa4 ⟨h1,h2⟩,zam]
 exact k
theorem zmX: ∀ {xs ys:List Int},xs.Pairwise (· < ·)->ys.Pairwise (· < ·)->(∀ k,k∈xs↔k∈ys)->xs=ys:=by
 intro xs ys hx hy hm
 have nx:xs.Nodup:=hx.imp fun z=>by omega
 have ny:ys.Nodup:=hy.imp fun z=>by omega
 have p:List.Perm xs ys:=(List.perm_ext_iff_of_nodup nx ny).mpr hm
 exact (zer p (hx.imp fun z=>by omega)).trans (zer (List.Perm.refl ys) (hy.imp fun z=>by omega)).symm
theorem zkp {x y:D} {a b:PyData} (e1:pd x=some a) (e2:pd y=some b) (h:zg9 a b=true):dEq x y=pure (.bl (PyData.eqv a b)):=by
 show zlL false x y=_
 unfold zlL
 rw [e1,e2]
 simp only [h,if_true]
 rfl
theorem zlz (xs:List Int):pd (tI xs)=some (.tuple (xs.map PyData.int)):=by unfold tI pd;rw [zbv];rfl
theorem zn9 (xs ys:List Int):dEq (tI xs) (tI ys)=pure (.bl (xs==ys)):=by
 rw [zkp (zlz xs) (zlz ys) (by unfold zg9;simp [PyData.canLay0,zaP,PyData.depth,zaX])]
 simp only [PyData.eqv,zcD]
theorem ziK (xs ys:List Int):dEq (.lst (xs.map D.int)) (.lst (ys.map D.int))=pure (.bl (xs==ys)):=by
 have e1:pd (.lst (xs.map D.int))=some (.list (xs.map PyData.int)):=by unfold pd;rw [zbv];rfl
 have e2:pd (.lst (ys.map D.int))=some (.list (ys.map PyData.int)):=by unfold pd;rw [zbv];rfl
 rw [zkp e1 e2 (by unfold zg9;simp [PyData.canLay0,zaP,PyData.depth,zaX])]
 simp only [PyData.eqv,zcD]
def gk (d:D):Prop:=kn d=true/\ ∀ ds,d= .tup ds->ds.length<64/\ ∀ x∈ds,kn x=true
theorem zlX {xs:List Int} (h:xs.length<64):gk (tI xs):=⟨rfl,fun ds e=>by
  cases e
  exact ⟨by rw [qaH];exact h,fun x hx=>by obtain ⟨i,_,rfl⟩:=qaU.mp hx;rfl⟩⟩
noncomputable def zh8 (n:Nat):D->Bool
 | .tup ds=>zbW n 0 ds
 | _=>false
theorem zim {n:Nat} {d:D} (h:zh8 n d=true): ∃ ls:List Int,d=tI ls/\ls.Pairwise (· < ·)/\ ∀ x∈ls,0<=x/\x<n:=by
 cases d with
 | tup ds=>
  obtain ⟨ls,rfl⟩:=ziu (zgJ (show zbW n 0 ds=true from h))
  exact ⟨ls,rfl,zb4.mp h⟩
 | _=>cases h
theorem zda {os:List (List Int×Int)} {i:Int} (h0:0<=i) (h1:i<os.length):atI (os.map zbt) i=some (zbt (os.getD i.toNat ([],0))):=by
 have hl:i.toNat<os.length:=by omega
 have:=zd6 (xs:=os.map zbt) (j:=i.toNat) (v:=zbt (os.getD i.toNat ([],0))) (by simp [hl,List.getD])
 rw [<- this]
 congr 1
 omega
noncomputable def zcY (os:List (List Int×Int)) (ls:List Int):List (List Int×Int):=ls.map fun i=>os.getD i.toNat ([],0)
theorem zfw {os:List (List Int×Int)} {ls:List Int} (b: ∀ x∈ls,0<=x/\x<os.length): ∀ o∈zcY os ls,o∈os:=fun o ho=>by
 obtain ⟨i,hi,rfl⟩:=qaU.mp ho
 have:=b i hi
 have hl:i.toNat<os.length:=by omega
 simp [List.getD,hl]
theorem zec (k:Int) (xs:List Int):zd0 (.int k) (.lst (xs.map D.int))=pure (.bl (!xs.any (· == k))):=by
 show zke true (.int k) (.lst (xs.map D.int))=_
 unfold zke
 simp only [pd]
 rw [zbv]
 have c:zjX (.int k) (xs.map PyData.int)=true:=by
  unfold zjX
  simp [PyData.canLay0,zaP,PyData.depth,zaX]
 simp only [c,if_true,zez]
theorem zj9 {xs:List Int} (h:xs.Nodup):(zeH xs).Pairwise (· < ·):=by
 have h1:=zev xs
 have h2:(zeH xs).Nodup:=(za6 xs).nodup_iff.mpr h
 exact (List.pairwise_and_iff.mpr ⟨h1,h2⟩).imp fun z=>by have:=z.1;have:=z.2;omega
theorem zkn {xs:List Int} {m:Int} (m0:0<=m) (h:xs.Nodup) (b: ∀ x∈xs,0<=x/\x<m):(xs.length:Int)<=m:=by
 rw [<- (za6 xs).length_eq]
 exact zgq m0 (zj9 h) fun x hx=>b x ((za6 xs).mem_iff.mp hx)
theorem zdL {j:Int} (h0:0<=j) (h1:j<1000):zeI (.int j)=pure (tI ((List.range j.toNat).map fun (k:Nat)=>(k:Int))):=by
 show (if 0<=j/\j<1000 then _ else _)=_
 rw [qa4 ⟨h0,h1⟩,zbp]
 rfl
theorem zg0 (xs:List D) (lo hi:Option Int):(L3.zfi xs lo hi).length<=xs.length:=by
 unfold L3.zfi
 rw [List.length_take,List.length_drop]
 omega
theorem zpm {xs:List D} {lo hi:Option Int} {d:D} (h:d∈L3.zfi xs lo hi):d∈xs:=List.mem_of_mem_drop (List.mem_of_mem_take h)
theorem zl5 {xs:List D} {t:Int} (t0:0<=t) (t1:t<(xs.length:Int)): ∃ d,atI xs t=some d/\d∈xs:=by
 have ht:t.toNat<xs.length:=by omega
 refine ⟨xs[t.toNat],?_,List.getElem_mem ht⟩
 have:=zd6 (xs:=xs) (j:=t.toNat) (v:=xs[t.toNat]) (by simp [ht])
 rw [<- this]
 congr 1
 omega
theorem zph {xs:List D} {t:Int} {h:Hh} {P:D->Hh->Prop} (t0:0<=t) (t1:t<(xs.length:Int)) (k: ∀ d∈xs,P d h):wp (ofO (atI xs t)) h P:=by
 obtain ⟨d,ed,hd⟩:=zl5 t0 t1
 rw [ed,zir,zam]
 exact k d hd
theorem ztz {i j:Int}:zoS [.int i,.int j]=pure (.int (if j<i then j else i)):=rfl
theorem zub {i j:Int}:zlF [.int i,.int j]=pure (.int (if j>i then j else i)):=rfl
theorem znq (xs:List Int):dNe (tI xs) (.tup [])=pure (.bl (!xs.isEmpty)):=by
 show zlL true _ _=_
 unfold zlL
 rw [zlz xs,show pd (.tup [])=some (.tuple []) from rfl]
 have c:zg9 (.tuple (xs.map PyData.int)) (.tuple [])=true:=by
  unfold zg9
  simp [PyData.canLay0,PyData.canLayAll0,zaP,PyData.depth,PyData.depthAll,zaX]
 simp only [c,if_true,PyData.eqv]
 cases xs<;>rfl
theorem ziv {b:Nat} {turn:D->M (Option D)} (ht: ∀ (i:Int) {h:Hh} {Q:Option D->Hh->Prop},Bx b h->(∀ o h',Ext b h h'->(o=none\/o=some (.int i))->Q o h')->wp (turn (.int i)) h Q):
  ∀ (is:List Int) {h:Hh} {P:List D->Hh->Prop},Bx b h->(∀ (ys:List Int) h',Ext b h h'->ys.Sublist is->P (ys.map D.int) h')->wp (zdi turn (is.map D.int)) h P
 | [],h,P,q,k=>by
  rw [List.map_nil,zdi,zam]
  exact k [] h (Ext.refl q) .slnil
 | i::r,h,P,q,k=>by
  rw [qaM,zdi,zas]
  refine ht i q fun o h2 x2 ho=> ?_
  rw [zas]
  refine ziv ht r x2.1 fun ys h3 x3 hl=> ?_
  rw [zam]
  rcases ho with rfl | rfl
  ·exact k ys h3 (x2.trans x3) (.cons _ hl)
  ·exact k (i::ys) h3 (x2.trans x3) (.cons₂ _ hl)
noncomputable def gkB:D->Bool
 | .tup ds=>decide (ds.length<64) && ds.all kn
 | d=>kn d
theorem zpg {d:D} (h:gkB d=true):gk d:=by
 cases d with
 | tup ds=>
  simp only [gkB,qaG,qaD,List.all_eq_true] at h
  exact ⟨rfl,fun es e=>by cases e;exact h⟩
 | _=>exact ⟨by simpa [gkB] using h,fun es e=>by cases e⟩
theorem gkT {ds:List D} (h:ds.length<64) (k: ∀ x∈ds,kn x=true):gk (.tup ds):=⟨rfl,fun es e=>by cases e;exact ⟨h,k⟩⟩
theorem zdz (n:Nat):((List.range n).map fun (k:Nat)=>(k:Int)).Pairwise (· < ·):=by
 rw [List.pairwise_map]
 exact List.pairwise_lt_range.imp fun z=>by omega
theorem zfm {n:Nat}: ∀ x∈(List.range n).map fun (k:Nat)=>(k:Int),0<=x/\x<n:=fun x hx=>by
 obtain ⟨k,hk,rfl⟩:=qaU.mp hx
 have:=List.mem_range.mp hk
 omega
def EvX {α:Type} (m:M α) (c:String):Prop:= ∀ h, ∃ h',m h= .exc c h'/\Gro h h'
section
variable {α β:Type} {m:M α} {a:α} {f:α->M β} {c:String}
theorem EvX.raise:EvX (zgo c:M α) c:=fun h=>⟨h,rfl,.refl⟩
theorem EvX.of (e:m=zgo c):EvX m c:=e▸ .raise
theorem EvX.left (x:EvX m c):EvX (m>>=f) c:=fun h=>by
 obtain ⟨h1,e1,g1⟩:=x h
 refine ⟨h1,?_,g1⟩
 show M.bind m f h=_
 unfold M.bind
 rw [e1]
theorem Ev.bindX (x:Ev m a) (y:EvX (f a) c):EvX (m>>=f) c:=fun h=>by
 obtain ⟨h1,e1,g1⟩:=x h
 obtain ⟨h2,e2,g2⟩:=y h1
 refine ⟨h2,?_,g1.trans g2⟩
 show M.bind m f h=_
 unfold M.bind
 rw [e1]
 exact e2
end
theorem znK {names:List String} {gb:FS} {F:List D->M D} {sd:Sd} {i:Nat} {c:String} {d:D} (x:EvX (gb sd) c) (hc:names.contains c=true) (ek:F [.exn c]=pure d):Ev (ziF names gb i F sd) (.nx ((List.replicate sd.length none).set i (some d))):=fun h=>by
 obtain ⟨h1,e1,g1⟩:=x h
 refine ⟨h1,?_,g1⟩
 unfold ziF
 rw [e1]
 show (if names.contains c=true then (do let d<-noX (F [.exn c]);pure (.nx ((List.replicate sd.length none).set i (some d))):M Out) h1 else .bad)=_
 rw [qa4 hc,ek]
 rfl
theorem zsV {g:FS} {sd:Sd}:zs6 g sd=noX (g sd):=rfl
theorem zsw {g:FE} {sd:Sd}:zuN g sd=noX (g sd):=rfl
theorem zi5 (xs:List D) {k:Int} (h:0<=k):L3.zfi xs none (some k)=xs.take k.toNat:=by
 have e:=HT.zkv xs.length xs.length k.toNat
 rw [Int.toNat_of_nonneg h] at e
 unfold L3.zfi
 have e0:HT.sIx xs.length 0 none=0:=rfl
 rw [e0,e]
 simp
theorem zjp (xs:List D) {k:Int} (h:0<=k):L3.zfi xs (some k) none=xs.drop k.toNat:=by
 have e:=HT.zkv xs.length 0 k.toNat
 rw [Int.toNat_of_nonneg h] at e
 unfold L3.zfi
 have e0:HT.sIx xs.length xs.length none=xs.length:=rfl
 rw [e0,e]
 by_cases hk:k.toNat<=xs.length
 ·rw [Nat.min_eq_left hk,List.take_of_length_le (by rw [List.length_drop];omega)]
 ·rw [Nat.min_eq_right (by omega),List.drop_eq_nil_of_le (show xs.length<=k.toNat by omega)]
  simp
theorem zkJ {xs:List Int} {m:Int} (m0:0<=m) (h:xs.Pairwise (· < ·)) (b: ∀ x∈xs,0<=x/\x<m):(xs==(List.range m.toNat).map fun (k:Nat)=>(k:Int))=((xs.length:Int)==m):=by
 rw [Bool.eq_iff_iff,beq_iff_eq,beq_iff_eq]
 constructor
 ·intro e
  rw [e]
  simp
  omega
 ·intro e
  refine zmX h (zdz _) fun k=>⟨fun hk=> ?_,fun hk=> ?_⟩
  ·obtain ⟨h1,h2⟩:=b k hk
   exact qaU.mpr ⟨k.toNat,List.mem_range.mpr (by omega),by omega⟩
  ·have hb:=zfm k hk
   by_cases c:k∈xs
   ·exact c
   ·exfalso
    have:=zkn (xs:=k::xs) m0 (List.nodup_cons.mpr ⟨c,h.imp fun z=>by omega⟩) fun x hx=>by
     rcases qaP.mp hx with rfl | hx
     ·omega
     ·exact b x hx
    rw [qaE] at this
    omega
end L3
namespace K63
open PySem PySem.Spec PyProof.Rows L2 L3
noncomputable def zet:List String:=["NoStock","NoOffer","NoThing","NoCover","NoNumber","NotFull","NoRow"]
noncomputable def G_36:FS:=zan (sIf (zc4 dLt (zaf 1) (zaz zdn (zac (zaf 0) zak))) (zbT (cOp dIx (zaf 0) (zaf 1))) zfZ) (zbT (cOp zdo (cOp zrJ (cK (.int 6151)) (zaf 1)) (cK (.int 29))))
noncomputable def F_36:List D->M D:=zb6 2 G_36
theorem d_36 (x0 x1:D):F_36 [x0,x1]=(do let o<-G_36 [some x0,some x1];zb7 o):=rfl
noncomputable def G_37:FS:=zan (zbf 2 (cOp zdo (cOp zgT (cOp zdo (zaf 0) (cK (.int 1))) (cK (.int 40692))) (cOp zgT (cK (.int 104729)) (zaf 1)))) (zan (zbf 2 (cOp zdo (cOp zrM (cOp zgT (zaf 2) (zaf 2)) (cK (.int 2147483399))) (zaf 1))) (zbT (cOp zrM (cOp zgT (zaf 2) (cOp zdo (zaf 2) (cK (.int 31)))) (cK (.int 2147483563)))))
noncomputable def F_37:List D->M D:=zb6 3 G_37
theorem d_37 (x0 x1:D):F_37 [x0,x1]=(do let o<-G_37 [some x0,some x1,none];zb7 o):=rfl
noncomputable def zdr:FS:=zbf 3 (cOp zdo (cOp zgT (zaf 3) (cK (.int 2147483647))) (zaz (zap 2 F_37) (zac (zaf 2) (zac (zaf 4) zak))))
noncomputable def G_38:FS:=zan (zbf 2 (zaz (zap 2 F_36) (zac (zaf 0) (zac (zaf 1) zak)))) (zan (sIf (zc4 dEq (cOp zrM (zaf 2) (cK (.int 2))) (cK (.int 0))) (zbT (zfA (zac (cOp zp7 (zaf 2) (cK (.int 2))) zak))) zfZ) (zan (zbf 3 (cK (.int 0))) (zan (zkf (zfh (zac (cK (.int 24)) zak)) (zaw 4) zdr) (zbT (zfA (zac (zaf 3) zak))))))
noncomputable def F_38:List D->M D:=zb6 5 G_38
theorem d_38 (x0 x1:D):F_38 [x0,x1]=(do let o<-G_38 [some x0,some x1,none,none,none];zb7 o):=rfl
noncomputable def G_39:FS:=zan (zkQ (zaz zfS (zac (cOp dIx (zaf 0) (cK (.int 0))) (zac (zaf 1) zak))) (zbO 2 (zau (zaw 2) (zau (zaw 3) zbP)))) (zan (zkQ (zaf 2) (zoU (zaf 0) (cK (.int 0)))) (zbT (zaf 3)))
noncomputable def F_39:List D->M D:=zb6 4 G_39
theorem d_39 (x0 x1:D):F_39 [x0,x1]=(do let o<-G_39 [some x0,some x1,none,none];zb7 o):=rfl
noncomputable def zcX:FE:=zaf 0
noncomputable def zcQ:FT:=zc4 dLe (zaz (zap 2 F_39) (zac (zaf 1) (zac (cK (.int 4)) zak))) (zaf 2)
noncomputable def zbC:FS:=zan (zbf 8 (zao (zfh (zac (zaf 3) zak)) (zaw 0) zcQ zcX [none,some 0,some 5])) (zan (sIf (zc4 dEq (zaf 8) (zfb zak)) (zbf 8 (zfb (zac (zaz (zap 2 F_39) (zac (zaf 0) (zac (zaf 3) zak))) zak))) zfZ) (zdN (zbk (zaf 6) (zcT (zac (zaz zbo (zac (zaf 8) zak)) (zac (cOp zdo (cK (.int 1)) (zaz (zap 2 F_39) (zac (zaf 0) (zac (zaf 4) zak)))) zak))))))
noncomputable def G_40:FS:=zan (zbf 3 (cOp zdo (cK (.int 1)) (zaz (zap 2 F_39) (zac (zaf 0) (zac (zaf 1) zak))))) (zan (zbf 4 (cOp dIx (zfb (zac (cK (.int 1)) (zac (cK (.int 3)) (zac (cK (.int 20)) (zac (cOp zoK (cK (.int 10)) (cK (.int 20))) zak))))) (zaz (zap 2 F_39) (zac (zaf 0) (zac (cK (.int 4)) zak))))) (zan (zbf 5 (zaz (zap 2 F_39) (zac (zaf 0) (zac (cK (.int 3)) zak)))) (zan (zbf 6 (zfA zak)) (zan (zkf (zfh (zac (zaz (zap 2 F_39) (zac (zaf 0) (zac (cOp zdo (zaf 2) (cK (.int 1))) zak))) zak)) (zaw 7) zbC) (zbT (zcT (zac (zaf 3) (zac (zaz zbo (zac (zaf 6) zak)) zak))))))))
noncomputable def F_40:List D->M D:=zb6 9 G_40
theorem d_40 (x0 x1 x2:D):F_40 [x0,x1,x2]=(do let o<-G_40 [some x0,some x1,some x2,none,none,none,none,none,none];zb7 o):=rfl
noncomputable def zcg:FE:=zaf 0
noncomputable def zcj:FT:=zc4 dIn (zaf 1) (cOp dIx (zaf 0) (cK (.int 0)))
noncomputable def zey:FE:=zaf 0
noncomputable def zdc:FT:=zc4 dEq (zao (iSq (zaf 1)) (zaw 0) zcj zcg [none,some 0]) (zfb zak)
noncomputable def G_41:FS:=zan (zkQ (zaz (zap 3 F_40) (zac (zaf 0) (zac (zaf 1) (zac (cOp zqK (zaf 2) (cK (.int 1))) zak)))) (zbO 2 (zau (zaw 3) (zau (zaw 4) zbP)))) (zan (zbf 5 (zaz zbo (zac (zao (zfh (zac (zaf 3) zak)) (zaw 0) zdc zey [none,some 4]) zak))) (zan (zbf 6 (zaz (zap 2 F_39) (zac (zaf 0) (zac (cOp zdo (zaz zdn (zac (zaf 4) zak)) (cK (.int 1))) zak)))) (zan (sIf (zc4 dNe (zaf 5) (zcT zak)) (zbf 4 (cOp zdo (cOp zdo (cSl (zaf 4) zfn (zfY (zaf 6))) (zcT (zac (zcT (zac (zaf 5) (zac (cOp zdo (cK (.int 1)) (zaz (zap 2 F_39) (zac (zaf 0) (zac (cK (.int 9)) zak)))) zak))) zak))) (cSl (zaf 4) (zfY (zaf 6)) zfn))) zfZ) (zbT (zcT (zac (zaf 3) (zac (zaf 4) zak)))))))
noncomputable def F_41:List D->M D:=zb6 7 G_41
theorem d_41 (x0 x1 x2:D):F_41 [x0,x1,x2]=(do let o<-G_41 [some x0,some x1,some x2,none,none,none,none];zb7 o):=rfl
noncomputable def za3:FT:=zqr (zc4 dLt (zaz zdn (zac (zaf 3) zak)) (cK (.int 10))) (zc4 dEq (zaz (zap 2 F_39) (zac (zaf 0) (zac (cK (.int 2)) zak))) (cK (.int 1)))
noncomputable def za4:FS:=zan (zkQ (cOp dIx (zaf 3) (zaz (zap 2 F_39) (zac (zaf 0) (zac (zaz zdn (zac (zaf 3) zak)) zak)))) (zbO 2 (zau (zaw 4) (zau (zaw 5) zbP)))) (zan (zbf 6 (zaz (zap 2 F_39) (zac (zaf 0) (zac (zaz zdn (zac (zaf 4) zak)) zak)))) (zan (zbf 7 (cOp zdo (cSl (zaf 4) zfn (zfY (zaf 6))) (cSl (zaf 4) (zfY (cOp zdo (zaf 6) (cK (.int 1)))) zfn))) (zan (sIf (tOr (zc4 dEq (zaf 7) (zcT zak)) (zc4 dEq (zaz (zap 2 F_39) (zac (zaf 0) (zac (cK (.int 2)) zak))) (cK (.int 1)))) (zbf 7 (zaf 4)) zfZ) (zdN (zbk (zaf 3) (zcT (zac (zaf 7) (zac (zaz zlF (zac (cK (.int 1)) (zac (cOp zdo (cOp zqK (zaf 5) (cK (.int 1))) (zaz (zap 2 F_39) (zac (zaf 0) (zac (cK (.int 3)) zak)))) zak))) zak))))))))
noncomputable def G_50:FS:=zan (zkQ (zaz (zap 3 F_41) (zac (zaf 0) (zac (cK (.int 6)) (zac (cK (.int 8)) zak)))) (zbO 2 (zau (zaw 1) (zau (zaw 2) zbP)))) (zan (zbf 3 (zaz zk9 (zac (zaf 2) zak))) (zan (zhw 1000 za3 za4) (zbT (zcT (zac (zaf 1) (zac (zaz zbo (zac (zaf 3) zak)) zak))))))
noncomputable def F_50:List D->M D:=zb6 8 G_50
theorem d_50 (x0:D):F_50 [x0]=(do let o<-G_50 [some x0,none,none,none,none,none,none,none];zb7 o):=rfl
noncomputable def zcO:FE:=zaf 0
noncomputable def zcR:FT:=zc4 zd0 (zaf 0) (zaf 1)
noncomputable def G_44:FS:=zan (zkQ (cOp dIx (cOp dIx (zaf 0) (cK (.int 1))) (zaf 1)) (zbO 2 (zau (zaw 3) (zau (zaw 4) zbP)))) (zan (zkQ (cOp dIx (cOp dIx (zaf 0) (cK (.int 1))) (zaf 2)) (zbO 2 (zau (zaw 5) (zau (zaw 6) zbP)))) (zan (sIf (tOr (zc4 dEq (zaf 1) (zaf 2)) (tOr (zc4 dNe (zao (iSq (zaf 5)) (zaw 0) zcR zcO [none,some 3]) (zfb zak)) (zc4 dGt (zaf 4) (zaf 6)))) (zbT (cK (.bl false))) zfZ) (zbT (cOr (zqs (znk (cOp dEq (zaf 3) (zaf 5)) (cOp dEq (zaf 4) (zaf 6)))) (cOp dLt (zaf 1) (zaf 2))))))
noncomputable def F_44:List D->M D:=zb6 7 G_44
theorem d_44 (x0 x1 x2:D):F_44 [x0,x1,x2]=(do let o<-G_44 [some x0,some x1,some x2,none,none,none,none];zb7 o):=rfl
noncomputable def zeB:FE:=zaf 0
noncomputable def zeg:FT:=zc4 dIn (zaf 2) (cOp dIx (zaf 1) (cK (.int 0)))
noncomputable def G_45:FS:=zbT (zao (zsb (cOp dIx (zaf 0) (cK (.int 1)))) (zbO 2 (zau (zaw 0) (zau (zaw 1) zbP))) zeg zeB [none,none,some 1])
noncomputable def F_45:List D->M D:=zb6 2 G_45
theorem d_45 (x0 x1:D):F_45 [x0,x1]=(do let o<-G_45 [some x0,some x1];zb7 o):=rfl
noncomputable def zbB:FE:=zaf 0
noncomputable def zby:FT:=zc4 zd0 (zaf 0) (zaf 1)
noncomputable def G_46:FS:=zan (zbf 3 (zaz (zap 2 F_45) (zac (zaf 0) (zac (zaf 1) zak)))) (zan (zbf 4 (zaz (zap 2 F_45) (zac (zaf 0) (zac (zaf 2) zak)))) (zan (sIf (tOr (zc4 dEq (zaf 1) (zaf 2)) (zc4 dNe (zao (iSq (zaf 3)) (zaw 0) zby zbB [none,some 4]) (zfb zak))) (zbT (cK (.bl false))) zfZ) (zbT (cOr (cOp dNe (zaf 3) (zaf 4)) (cOp dLt (zaf 1) (zaf 2))))))
noncomputable def F_46:List D->M D:=zb6 5 G_46
theorem d_46 (x0 x1 x2:D):F_46 [x0,x1,x2]=(do let o<-G_46 [some x0,some x1,some x2,none,none];zb7 o):=rfl
noncomputable def zcG:FE:=zaf 0
noncomputable def zcK:FT:=zjs (zp1 3 [fun ds=>noX (F_44 ds),fun ds=>noX (F_46 ds)] (zaz zfP (zac (zaf 1) zak)) (zac (zaf 2) (zac (zaf 0) (zac (zaf 3) zak))))
noncomputable def zbZ:FS:=zan (zbf 5 (zao (zfh (zac (zaf 2) zak)) (zaw 0) zcK zcG [none,some 1,some 0,some 4])) (sIf (zc4 dNe (zaf 5) (zfb zak)) (zdN (zbk (zaf 3) (zcT (zac (zaf 4) (zac (cOp dIx (zaf 5) (cK (.int 0))) zak))))) zfZ)
noncomputable def G_47:FS:=zan (zbf 2 (cOp dIx (zfb (zac (zaz zdn (zac (cOp dIx (zaf 0) (cK (.int 1))) zak)) (zac (cOp dIx (zaf 0) (cK (.int 0))) zak))) (zaz zfP (zac (zaf 1) zak)))) (zan (zbf 3 (zfA zak)) (zan (zkf (zfh (zac (zaf 2) zak)) (zaw 4) zbZ) (zbT (cUn zpb (zaf 3)))))
noncomputable def F_47:List D->M D:=zb6 6 G_47
theorem d_47 (x0 x1:D):F_47 [x0,x1]=(do let o<-G_47 [some x0,some x1,none,none,none,none];zb7 o):=rfl
noncomputable def zen:FE:=zaf 0
noncomputable def zdg:FT:=zc4 dIn (zaf 1) (zaf 2)
noncomputable def zcf:FS:=zan (zkQ (cOp dIx (cOp dIx (zaf 0) (cK (.int 1))) (zaf 4)) (zbO 2 (zau (zaw 5) (zau (zaw 6) zbP)))) (zdN (zbk (zaf 3) (zcT (zac (zaz zbo (zac (zao (zkC (zaf 1)) (zbO 2 (zau (zaw 0) (zau (zaw 1) zbP))) zdg zen [none,none,some 5]) zak)) (zac (zaf 6) zak)))))
noncomputable def G_48:FS:=zan (zbf 3 (zfA zak)) (zan (zkf (iSq (zaf 2)) (zaw 4) zcf) (zbT (zcT (zac (zaz zdn (zac (zaf 1) zak)) (zac (zaz zbo (zac (zaf 3) zak)) zak)))))
noncomputable def F_48:List D->M D:=zb6 7 G_48
theorem d_48 (x0 x1 x2:D):F_48 [x0,x1,x2]=(do let o<-G_48 [some x0,some x1,some x2,none,none,none,none];zb7 o):=rfl
noncomputable def zdZ:FE:=zaf 0
noncomputable def zdX:FE:=zaf 0
noncomputable def zdU:FT:=zc4 zd0 (zaf 0) (zaf 1)
noncomputable def zdY:FE:=zaf 0
noncomputable def zdS:FE:=zaf 0
noncomputable def zdT:FT:=zc4 zd0 (zaf 0) (zaf 1)
noncomputable def zcV:FE:=zaf 0
noncomputable def zcP:FT:=zc4 dIn (zaf 0) (zaf 1)
noncomputable def zcJ:FE:=zaf 0
noncomputable def zcH:FT:=zc4 dNe (zao (iSq (cOp dIx (cOp dIx (cOp dIx (zaf 1) (cK (.int 1))) (zaf 0)) (cK (.int 0)))) (zaw 0) zcP zcV [none,some 2]) (zfb zak)
noncomputable def zcL:FE:=zaf 0
noncomputable def zcU:FT:=zc4 zd0 (zaf 0) (zaf 1)
noncomputable def zb3:FE:=cOp dIx (cOp dIx (zaf 1) (cK (.int 1))) (zaf 0)
noncomputable def zb0:FE:=cOp dIx (cOp dIx (zaf 1) (cK (.int 0))) (zaf 0)
noncomputable def zdA:FE:=cOp dIx (cOp dIx (zaf 1) (cK (.int 0))) (zaf 0)
noncomputable def zdq:FE:=cOp dIx (cOp dIx (zaf 1) (cK (.int 1))) (zaf 0)
noncomputable def zb1:FT:=zjs (cK (.bl true))
noncomputable def zbE:FS:=zan (zbf 3 (zao (iSq (zaz (zap 2 F_47) (zac (zaf 0) (zac (cK (.bl false)) zak)))) (zbO 2 (zau (zaw 0) (zau (zaw 1) zbP))) (fun _=>pure true) zdZ [none,none])) (zan (zbf 4 (zao (zfh (zac (zaz zdn (zac (cOp dIx (zaf 0) (cK (.int 1))) zak)) zak)) (zaw 0) zdU zdX [none,some 3])) (zan (zbf 5 (cUn zcv (cOp dIx (zaf 0) (cK (.int 0))))) (zan (zbf 6 (zao (iSq (zaz (zap 2 F_47) (zac (zaz (zap 3 F_48) (zac (zaf 0) (zac (zaf 5) (zac (zaf 4) zak)))) (zac (cK (.bl true)) zak)))) (zbO 2 (zau (zaw 0) (zau (zaw 1) zbP))) (fun _=>pure true) zdY [none,none])) (zan (zbf 7 (zao (iSq (zaf 5)) (zaw 0) zdT zdS [none,some 6])) (zan (zbf 4 (zao (iSq (zaf 4)) (zaw 0) zcH zcJ [none,some 0,some 7])) (zan (sIf (zqr (zc4 dEq (zaz zdn (zac (zaf 4) zak)) (zaz zdn (zac (cOp dIx (zaf 0) (cK (.int 1))) zak))) (zc4 dEq (zaf 6) (zfb zak))) (zbT (zcT (zac (zcT (zac (zaf 0) (zac (zaz zbo (zac (cOp dIx (zaf 1) (cK (.int 0))) zak)) (zac (zaz zbo (zac (cOp dIx (zaf 1) (cK (.int 1))) zak)) zak)))) (zac (cUn zpb (zaf 2)) zak)))) zfZ) (zan (zbf 3 (zao (zfh (zac (zaz zdn (zac (cOp dIx (zaf 0) (cK (.int 1))) zak)) zak)) (zaw 0) zcU zcL [none,some 4])) (zan (zdN (zbk (zaf 2) (zcT (zac (zaz zbo (zac (zao (iSq (zaf 3)) (zaw 0) (fun _=>pure true) zb3 [none,some 1]) zak)) (zac (zaz zbo (zac (zao (iSq (zaf 6)) (zaw 0) (fun _=>pure true) zb0 [none,some 1]) zak)) zak))))) (zan (zbf 0 (zaz (zap 3 F_48) (zac (zaf 0) (zac (zaf 7) (zac (zaf 4) zak))))) (zbf 1 (zcT (zac (zao (iSq (zaf 7)) (zaw 0) (fun _=>pure true) zdA [none,some 1]) (zac (zao (iSq (zaf 4)) (zaw 0) (fun _=>pure true) zdq [none,some 1]) zak)))))))))))))
noncomputable def G_49:FS:=zan (zbf 1 (zcT (zac (cUn zcv (cOp dIx (zaf 0) (cK (.int 0)))) (zac (cUn zcv (zaz zdn (zac (cOp dIx (zaf 0) (cK (.int 1))) zak))) zak)))) (zan (zbf 2 (zfA zak)) (zhw 1000 zb1 zbE))
noncomputable def F_49:List D->M D:=zb6 8 G_49
theorem d_49 (x0:D):F_49 [x0]=(do let o<-G_49 [some x0,none,none,none,none,none,none,none];zb7 o):=rfl
noncomputable def G_43:FS:=zan (zbf 1 (zfb (zac (cK .non) (zac (cK (.bl true)) (zac (cK (.bl false)) (zac (cUn zmr (cK (.int 1))) (zac (cK (.int 0)) (zac (cK (.int 1)) (zac (cK (.int 2)) (zac (cK (.str "")) (zac (cK (.str "0")) (zac (zcT zak) (zac (zcT (zac (cK (.int 0)) zak)) (zac (zcT (zac (cK (.int 0)) (zac (cK (.int 1)) zak))) (zac (zcT (zac (cK (.int 1)) (zac (cK (.int 0)) zak))) (zac (zcT (zac (cK (.int 0)) (zac (cK (.int 0)) zak))) (zac (zcT (zac (cK (.bl true)) zak)) (zac (zfb (zac (cK (.int 0)) zak)) (zac (cK .dct) (zac (zcT (zac (zcT (zac (cK (.int 0)) zak)) zak)) zak)))))))))))))))))))) (zan (zbf 1 (cOp zdo (zaf 1) (zfb (zac (zcT (zac (cK .non) zak)) (zac (cOp zoK (cK (.int 10)) (cK (.int 39))) (zac (zcT (zac (cK (.int 12)) zak)) (zac (zcT (zac (cUn zmr (cK (.int 1))) zak)) (zac (zcT (zac (cK (.int 0)) (zac (cK (.str "1")) zak))) (zac (zfb (zac (cK (.int 0)) (zac (cK (.int 1)) zak))) (zac (zcT (zac (cK (.int 0)) (zac (cK (.int 1)) (zac (cK (.int 2)) zak)))) zak)))))))))) (zbT (cOp dIx (zaf 1) (zaz (zap 2 F_39) (zac (zaf 0) (zac (zaz zdn (zac (zaf 1) zak)) zak))))))
noncomputable def F_43:List D->M D:=zb6 2 G_43
theorem d_43 (x0:D):F_43 [x0]=(do let o<-G_43 [some x0,none];zb7 o):=rfl
noncomputable def G_53:FS:=zan (zbf 3 (zaz (zap 2 F_39) (zac (zaf 0) (zac (cOp zdo (zaz zdn (zac (zaf 2) zak)) (cK (.int 1))) zak)))) (zan (zbf 4 (zaz (zap 1 F_43) (zac (zaf 0) zak))) (zan (zbf 5 (zfb (zac (cOp zdo (cSl (zaf 2) zfn (zfY (zaf 3))) (cSl (zaf 2) (zfY (cOp zdo (zaf 3) (cK (.int 1)))) zfn)) (zac (cOp zdo (zaf 2) (zcT (zac (zaz zdn (zac (cOp dIx (zaf 1) (cK (.int 1))) zak)) zak))) (zac (cUn zs4 (zaf 2)) (zac (zaz zk1 (zac (zaf 2) zak)) (zac (cOp zdo (zaf 2) (cSl (zaf 2) (zfY (cUn zmr (cK (.int 1)))) zfn)) (zac (zaf 4) (zac (cOp zdo (zaf 2) (zcT (zac (zaf 4) zak))) zak))))))))) (zan (zbf 5 (cOp zdo (zaf 5) (zfb (zac (cOp zdo (cOp zdo (cSl (zaf 2) zfn (zfY (zaf 3))) (zcT (zac (zaf 4) zak))) (cSl (zaf 2) (zfY (zaf 3)) zfn)) (zac (cUn zeI (zaz zdn (zac (cOp dIx (zaf 1) (cK (.int 1))) zak))) (zac (zaf 2) (zac (cK .non) (zac (zcT (zac (zaf 2) zak)) zak)))))))) (zbT (cOp dIx (zaf 5) (zaz (zap 2 F_39) (zac (zaf 0) (zac (zaz zdn (zac (zaf 5) zak)) zak))))))))
noncomputable def F_53:List D->M D:=zb6 6 G_53
theorem d_53 (x0 x1 x2:D):F_53 [x0,x1,x2]=(do let o<-G_53 [some x0,some x1,some x2,none,none,none];zb7 o):=rfl
noncomputable def G_42:FS:=zbT (znk (cUn (zi2 "int") (zaf 0)) (zqs (cUn (zi2 "bool") (zaf 0))))
noncomputable def F_42:List D->M D:=zb6 1 G_42
theorem d_42 (x0:D):F_42 [x0]=(do let o<-G_42 [some x0];zb7 o):=rfl
noncomputable def zdv:FE:=zaz (zap 1 F_42) (zac (zaf 0) zak)
noncomputable def zco:FE:=zhx dLe dLt (cK (.int 0)) (zaf 0) (zaz zdn (zac (cOp dIx (zaf 1) (cK (.int 1))) zak))
noncomputable def G_51:FS:=zan (sIf (tOr (zkd (zjs (cUn (zi2 "tuple") (zaf 1)))) (zkd (zjs (zaz zrQ (zac (zao (iSq (zaf 1)) (zaw 0) (fun _=>pure true) zdv [none]) zak))))) (zbT (cK (.bl false))) zfZ) (zbT (znk (cOp dEq (zaz zk1 (zac (zaf 1) zak)) (cUn zb2 (zaf 1))) (zaz zrQ (zac (zao (iSq (zaf 1)) (zaw 0) (fun _=>pure true) zco [none,some 0]) zak))))
noncomputable def F_51:List D->M D:=zb6 2 G_51
theorem d_51 (x0 x1:D):F_51 [x0,x1]=(do let o<-G_51 [some x0,some x1];zb7 o):=rfl
noncomputable def zbw:FS:=zbf 2 (cOp zdo (zaf 2) (zaz zk1 (zac (cOp dIx (cOp dIx (cOp dIx (zaf 0) (cK (.int 1))) (zaf 3)) (cK (.int 0))) zak)))
noncomputable def G_52:FS:=zan (sIf (zkd (zjs (zaz (zap 2 F_51) (zac (zaf 0) (zac (zaf 1) zak))))) (zbT (cK (.bl false))) zfZ) (zan (zbf 2 (zfb zak)) (zan (zkf (iSq (zaf 1)) (zaw 3) zbw) (zbT (cOp dEq (cUn zb2 (zaf 2)) (cUn zcv (cOp dIx (zaf 0) (cK (.int 0))))))))
noncomputable def F_52:List D->M D:=zb6 4 G_52
theorem d_52 (x0 x1:D):F_52 [x0,x1]=(do let o<-G_52 [some x0,some x1,none,none];zb7 o):=rfl
noncomputable def G_54:FS:=zan (zbf 1 (zfb (zac (cUn (zor zet "NoNumber") (zaf 0)) (zac (cUn (zor zet "NoCover") (zaf 0)) (zac (cUn (zor zet "NotFull") (zaf 0)) (zac (cUn (zor zet "NoOffer") (zaf 0)) zak)))))) (zan (zbf 1 (cOp zdo (zaf 1) (zfb (zac (cUn (zor zet "NoThing") (zaf 0)) (zac (cUn (zor zet "NoStock") (zaf 0)) (zac (cUn (zor zet "NoRow") (zaf 0)) (zac (cK (.bl true)) zak))))))) (zbT (cOp dIx (zfb (zac (cK (.str "number")) (zac (cK (.str "cover")) (zac (cK (.str "full")) (zac (cK (.str "offer")) (zac (cK (.str "thing")) (zac (cK (.str "stock")) (zac (cK (.str "row")) (zac (cK (.str "other")) zak))))))))) (cUn zq9 (zaf 1)))))
noncomputable def F_54:List D->M D:=zb6 2 G_54
theorem d_54 (x0:D):F_54 [x0]=(do let o<-G_54 [some x0,none];zb7 o):=rfl
noncomputable def G_8:FS:=zbT (znk (cUn (zi2 "int") (zaf 0)) (zqs (cUn (zi2 "bool") (zaf 0))))
noncomputable def F_8:List D->M D:=zb6 1 G_8
theorem d_8 (x0:D):F_8 [x0]=(do let o<-G_8 [some x0];zb7 o):=rfl
noncomputable def zbu:FS:=zan (sIf (tOr (zkd (zjs (zaz (zap 1 F_8) (zac (zaf 3) zak)))) (tOr (zc4 dLt (zaf 3) (zaf 2)) (zc4 dGe (zaf 3) (zaf 1)))) (zbT (cK (.bl false))) zfZ) (zbf 2 (cOp zdo (zaf 3) (cK (.int 1))))
noncomputable def G_9:FS:=zan (sIf (zkd (zjs (cUn (zi2 "tuple") (zaf 0)))) (zbT (cK (.bl false))) zfZ) (zan (zbf 2 (cK (.int 0))) (zan (zkf (iSq (zaf 0)) (zaw 3) zbu) (zbT (cK (.bl true)))))
noncomputable def F_9:List D->M D:=zb6 4 G_9
theorem d_9 (x0 x1:D):F_9 [x0,x1]=(do let o<-G_9 [some x0,some x1,none,none];zb7 o):=rfl
noncomputable def G_10:FS:=zbT (zaz (zap 2 F_9) (zac (zaf 1) (zac (zaz zdn (zac (cOp dIx (zaf 0) (cK (.int 1))) zak)) zak)))
noncomputable def F_10:List D->M D:=zb6 2 G_10
theorem d_10 (x0 x1:D):F_10 [x0,x1]=(do let o<-G_10 [some x0,some x1];zb7 o):=rfl
noncomputable def G_13:FS:=sIf (zkd (zjs (zaz (zap 2 fun ds=>noX (F_10 ds)) (zac (zaf 0) (zac (zaf 1) zak))))) (zgg "NoCover") zfZ
noncomputable def F_13:List D->M D:=zb6 2 G_13
theorem d_13 (x0 x1:D):F_13 [x0,x1]=(do let o<-G_13 [some x0,some x1];zb7 o):=rfl
noncomputable def zc5:FE:=cOp dIx (zaf 0) (cK (.int 0))
noncomputable def zej:FE:=zaf 0
noncomputable def zep:FT:=zc4 zd0 (zaf 0) (zaf 1)
noncomputable def G_35:FS:=zan (zbf 2 (zao (iSq (zaf 1)) (zaw 0) (fun _=>pure true) zc5 [none])) (zbT (zao (zfh (zac (zaf 0) zak)) (zaw 0) zep zej [none,some 2]))
noncomputable def F_35:List D->M D:=zb6 3 G_35
theorem d_35 (x0 x1:D):F_35 [x0,x1]=(do let o<-G_35 [some x0,some x1,none];zb7 o):=rfl
noncomputable def za9:FS:=zdN (ziI (zaf 1) (cOp dIx (zaf 2) (cK (.int 0))))
noncomputable def G_15:FS:=zan (zbf 1 (zfA zak)) (zan (zkf (iSq (zaf 0)) (zaw 2) za9) (zbT (zaz zbo (zac (cUn zb2 (zaf 1)) zak))))
noncomputable def F_15:List D->M D:=zb6 3 G_15
theorem d_15 (x0:D):F_15 [x0]=(do let o<-G_15 [some x0,none,none];zb7 o):=rfl
noncomputable def G_16:FS:=zbT (cOp dEq (zaz zdn (zac (zaz (zap 1 F_15) (zac (zaf 1) zak)) zak)) (cOp dIx (zaf 0) (cK (.int 0))))
noncomputable def F_16:List D->M D:=zb6 2 G_16
theorem d_16 (x0 x1:D):F_16 [x0,x1]=(do let o<-G_16 [some x0,some x1];zb7 o):=rfl
noncomputable def G_11:FS:=zbT (zaz (zap 2 F_16) (zac (zaf 0) (zac (cOp dIx (zaf 0) (cK (.int 1))) zak)))
noncomputable def F_11:List D->M D:=zb6 1 G_11
theorem d_11 (x0:D):F_11 [x0]=(do let o<-G_11 [some x0];zb7 o):=rfl
noncomputable def G_12:FS:=sIf (zkd (zjs (zaz (zap 1 fun ds=>noX (F_11 ds)) (zac (zaf 0) zak)))) (zgg "NotFull") zfZ
noncomputable def F_12:List D->M D:=zb6 1 G_12
theorem d_12 (x0:D):F_12 [x0]=(do let o<-G_12 [some x0];zb7 o):=rfl
noncomputable def G_32:FS:=zbT (znk (cOp dIx (cOp dIx (zaf 0) (zaf 2)) (zaf 1)) (cOr (cOp dLt (zaf 1) (zaf 2)) (zqs (cOp dIx (cOp dIx (zaf 0) (zaf 1)) (zaf 2)))))
noncomputable def F_32:List D->M D:=zb6 3 G_32
theorem d_32 (x0 x1 x2:D):F_32 [x0,x1,x2]=(do let o<-G_32 [some x0,some x1,some x2];zb7 o):=rfl
noncomputable def zcB:FE:=zaf 0
noncomputable def zcC:FT:=zjs (zaz (zap 3 F_32) (zac (zaf 1) (zac (zaf 0) (zac (zaf 2) zak))))
noncomputable def zcu:FS:=zan (zbf 3 (zao (zfh (zac (zaz zdn (zac (zaf 0) zak)) zak)) (zaw 0) zcC zcB [none,some 0,some 2])) (sIf (znU (zaf 3)) (zdN (zbk (zaf 1) (zcT (zac (zaf 2) (zac (cOp dIx (zaf 3) (cK (.int 0))) zak))))) zfZ)
noncomputable def G_31:FS:=zan (zbf 1 (zfA zak)) (zan (zkf (zfh (zac (zaz zdn (zac (zaf 0) zak)) zak)) (zaw 2) zcu) (zbT (cUn zpb (zaf 1))))
noncomputable def F_31:List D->M D:=zb6 4 G_31
theorem d_31 (x0:D):F_31 [x0]=(do let o<-G_31 [some x0,none,none,none];zb7 o):=rfl
noncomputable def zc6:FE:=cOp dIn (zaf 0) (zaf 1)
noncomputable def G_30:FS:=zbT (zaz zrQ (zac (zao (iSq (zaf 0)) (zaw 0) (fun _=>pure true) zc6 [none,some 1]) zak))
noncomputable def F_30:List D->M D:=zb6 2 G_30
theorem d_30 (x0 x1:D):F_30 [x0,x1]=(do let o<-G_30 [some x0,some x1];zb7 o):=rfl
noncomputable def zbR:FE:=znk (cOp dLe (cOp dIx (zaf 0) (cK (.int 1))) (cOp dIx (zaf 1) (cK (.int 1)))) (zaz (zap 2 F_30) (zac (cOp dIx (zaf 1) (cK (.int 0))) (zac (cOp dIx (zaf 0) (cK (.int 0))) zak)))
noncomputable def G_27:FS:=zbT (zao (iSq (cOp dIx (zaf 0) (cK (.int 1)))) (zaw 0) (fun _=>pure true) zbR [none,some 1])
noncomputable def F_27:List D->M D:=zb6 2 G_27
theorem d_27 (x0 x1:D):F_27 [x0,x1]=(do let o<-G_27 [some x0,some x1];zb7 o):=rfl
noncomputable def zbG:FE:=zaz (zap 2 F_27) (zac (zaf 1) (zac (zaf 0) zak))
noncomputable def G_26:FS:=zbT (zao (iSq (cOp dIx (zaf 0) (cK (.int 1)))) (zaw 0) (fun _=>pure true) zbG [none,some 0])
noncomputable def F_26:List D->M D:=zb6 1 G_26
theorem d_26 (x0:D):F_26 [x0]=(do let o<-G_26 [some x0];zb7 o):=rfl
noncomputable def G_22:FS:=zan (zdN (zaz (zap 1 F_12) (zac (zaf 0) zak))) (zbT (zaz (zap 1 fun ds=>noX (F_31 ds)) (zac (zaz (zap 1 fun ds=>noX (F_26 ds)) (zac (zaf 0) zak)) zak)))
noncomputable def F_22:List D->M D:=zb6 1 G_22
theorem d_22 (x0:D):F_22 [x0]=(do let o<-G_22 [some x0];zb7 o):=rfl
noncomputable def zbS:FE:=zaf 0
noncomputable def zbK:FT:=zc4 dIn (zaf 2) (cOp dIx (zaf 1) (cK (.int 0)))
noncomputable def G_17:FS:=zbT (zaz zbo (zac (zao (zsb (cOp dIx (zaf 0) (cK (.int 1)))) (zbO 2 (zau (zaw 0) (zau (zaw 1) zbP))) zbK zbS [none,none,some 1]) zak))
noncomputable def F_17:List D->M D:=zb6 2 G_17
theorem d_17 (x0 x1:D):F_17 [x0,x1]=(do let o<-G_17 [some x0,some x1];zb7 o):=rfl
noncomputable def zbA:FE:=zaz (zap 2 F_30) (zac (zaz (zap 2 F_17) (zac (zaf 1) (zac (zaf 0) zak))) (zac (zaf 2) zak))
noncomputable def G_29:FS:=zan (zbf 2 (zaz (zap 2 F_17) (zac (zaf 0) (zac (zaf 1) zak)))) (zbT (zao (zfh (zac (cOp dIx (zaf 0) (cK (.int 0))) zak)) (zaw 0) (fun _=>pure true) zbA [none,some 0,some 2]))
noncomputable def F_29:List D->M D:=zb6 3 G_29
theorem d_29 (x0 x1:D):F_29 [x0,x1]=(do let o<-G_29 [some x0,some x1,none];zb7 o):=rfl
noncomputable def zbH:FE:=zaz (zap 2 F_29) (zac (zaf 1) (zac (zaf 0) zak))
noncomputable def G_28:FS:=zbT (zao (zfh (zac (cOp dIx (zaf 0) (cK (.int 0))) zak)) (zaw 0) (fun _=>pure true) zbH [none,some 0])
noncomputable def F_28:List D->M D:=zb6 1 G_28
theorem d_28 (x0:D):F_28 [x0]=(do let o<-G_28 [some x0];zb7 o):=rfl
noncomputable def G_23:FS:=zan (zdN (zaz (zap 1 F_12) (zac (zaf 0) zak))) (zbT (zaz (zap 1 fun ds=>noX (F_31 ds)) (zac (zaz (zap 1 fun ds=>noX (F_28 ds)) (zac (zaf 0) zak)) zak)))
noncomputable def F_23:List D->M D:=zb6 1 G_23
theorem d_23 (x0:D):F_23 [x0]=(do let o<-G_23 [some x0];zb7 o):=rfl
noncomputable def zeZ:FE:=zaf 0
noncomputable def zdD:FT:=zc4 dIn (zaf 1) (cOp dIx (zaf 2) (cK (.int 0)))
noncomputable def G_19:FS:=zbT (zaz zbo (zac (zao (zkC (zaf 1)) (zbO 2 (zau (zaw 0) (zau (zaw 1) zbP))) zdD zeZ [none,none,some 0]) zak))
noncomputable def F_19:List D->M D:=zb6 2 G_19
theorem d_19 (x0 x1:D):F_19 [x0,x1]=(do let o<-G_19 [some x0,some x1];zb7 o):=rfl
noncomputable def zd7:FE:=cOp dIx (cOp dIx (zaf 1) (cK (.int 1))) (zaf 0)
noncomputable def zd3:FE:=zcT (zac (zaz (zap 2 F_19) (zac (zaf 0) (zac (zaf 1) zak))) (zac (cOp dIx (zaf 0) (cK (.int 1))) zak))
noncomputable def G_18:FS:=zan (zbf 3 (zao (iSq (zaf 2)) (zaw 0) (fun _=>pure true) zd7 [none,some 0])) (zbT (zcT (zac (zaz zdn (zac (zaf 1) zak)) (zac (zaz zbo (zac (zao (iSq (zaf 3)) (zaw 0) (fun _=>pure true) zd3 [none,some 1]) zak)) zak))))
noncomputable def F_18:List D->M D:=zb6 4 G_18
theorem d_18 (x0 x1 x2:D):F_18 [x0,x1,x2]=(do let o<-G_18 [some x0,some x1,some x2,none];zb7 o):=rfl
noncomputable def zb8:FE:=zaf 0
noncomputable def zcd:FT:=znU (zaz (zap 2 F_19) (zac (cOp dIx (cOp dIx (zaf 1) (cK (.int 1))) (zaf 0)) (zac (zaf 2) zak)))
noncomputable def zb9:FE:=cOp dIx (cOp dIx (zaf 1) (cK (.int 1))) (zaf 0)
noncomputable def zcc:FE:=cOp dIx (cOp dIx (zaf 1) (cK (.int 2))) (zaf 0)
noncomputable def G_34:FS:=zan (zbf 1 (cOp dIx (zaf 0) (cK (.int 0)))) (zan (zbf 2 (zaz (zap 2 fun ds=>noX (F_35 ds)) (zac (zaz zdn (zac (cOp dIx (zaf 1) (cK (.int 1))) zak)) (zac (zaz (zap 1 F_22) (zac (zaf 1) zak)) zak)))) (zan (zbf 3 (cUn zcv (cOp dIx (zaf 1) (cK (.int 0))))) (zan (zbf 4 (zaz (zap 2 fun ds=>noX (F_35 ds)) (zac (cOp dIx (zaf 1) (cK (.int 0))) (zac (zaz (zap 1 F_23) (zac (zaz (zap 3 fun ds=>noX (F_18 ds)) (zac (zaf 1) (zac (zaf 3) (zac (zaf 2) zak)))) zak)) zak)))) (zan (zs6 (zbf 2 (zao (iSq (zaf 2)) (zaw 0) zcd zb8 [none,some 1,some 4]))) (zan (zbf 5 (zaz zbo (zac (zao (iSq (zaf 4)) (zaw 0) (fun _=>pure true) zb9 [none,some 0]) zak))) (zan (zbf 6 (zaz zbo (zac (zao (iSq (zaf 2)) (zaw 0) (fun _=>pure true) zcc [none,some 0]) zak))) (zbT (zcT (zac (zaz (zap 3 fun ds=>noX (F_18 ds)) (zac (zaf 1) (zac (zaf 4) (zac (zaf 2) zak)))) (zac (zaf 5) (zac (zaf 6) zak)))))))))))
noncomputable def F_34:List D->M D:=zb6 7 G_34
theorem d_34 (x0:D):F_34 [x0]=(do let o<-G_34 [some x0,none,none,none,none,none,none];zb7 o):=rfl
noncomputable def zaZ:FT:=zc4 dNe (zaf 2) (cOp dIx (zaf 1) (cUn zmr (cK (.int 1))))
noncomputable def za8:FS:=zan (zdN (zbk (zaf 1) (zaf 2))) (zbf 2 (zaz (zap 1 F_34) (zac (zaf 2) zak)))
noncomputable def G_33:FS:=zan (zbf 1 (zfA (zac (zcT (zac (zaf 0) (zac (cUn zeI (cOp dIx (zaf 0) (cK (.int 0)))) (zac (cUn zeI (zaz zdn (zac (cOp dIx (zaf 0) (cK (.int 1))) zak))) zak)))) zak))) (zan (zbf 2 (zaz (zap 1 F_34) (zac (cOp dIx (zaf 1) (cUn zmr (cK (.int 1)))) zak))) (zan (zs6 (zhw 1000 zaZ za8)) (zbT (cUn zpb (zaf 1)))))
noncomputable def F_33:List D->M D:=zb6 3 G_33
theorem d_33 (x0:D):F_33 [x0]=(do let o<-G_33 [some x0,none,none];zb7 o):=rfl
noncomputable def G_24:FS:=zbT (cOp dIx (zaz (zap 1 F_33) (zac (zaf 0) zak)) (cUn zmr (cK (.int 1))))
noncomputable def F_24:List D->M D:=zb6 1 G_24
theorem d_24 (x0:D):F_24 [x0]=(do let o<-G_24 [some x0];zb7 o):=rfl
noncomputable def zes:FE:=cOp dIx (cOp dIx (zaf 1) (cK (.int 1))) (zaf 0)
noncomputable def G_14:FS:=zan (zdN (zaz (zap 2 F_13) (zac (zaf 0) (zac (zaf 1) zak)))) (zbT (zao (iSq (zaf 1)) (zaw 0) (fun _=>pure true) zes [none,some 0]))
noncomputable def F_14:List D->M D:=zb6 2 G_14
theorem d_14 (x0 x1:D):F_14 [x0,x1]=(do let o<-G_14 [some x0,some x1];zb7 o):=rfl
noncomputable def G_20:FS:=zbT (znk (zaz (zap 2 fun ds=>noX (F_10 ds)) (zac (zaf 0) (zac (zaf 1) zak))) (zaz (zap 2 fun ds=>noX (F_16 ds)) (zac (zaf 0) (zac (zaz (zap 2 F_14) (zac (zaf 0) (zac (zaf 1) zak))) zak))))
noncomputable def F_20:List D->M D:=zb6 2 G_20
theorem d_20 (x0 x1:D):F_20 [x0,x1]=(do let o<-G_20 [some x0,some x1];zb7 o):=rfl
noncomputable def G_21:FS:=sIf (zkd (zjs (zaz (zap 2 F_20) (zac (zaf 0) (zac (zaf 1) zak))))) (zgg "NoCover") zfZ
noncomputable def F_21:List D->M D:=zb6 2 G_21
theorem d_21 (x0 x1:D):F_21 [x0,x1]=(do let o<-G_21 [some x0,some x1];zb7 o):=rfl
noncomputable def zdy:FE:=cOp dIx (cOp dIx (zaf 1) (cK (.int 2))) (zaf 0)
noncomputable def G_25:FS:=zan (zdN (zaz (zap 2 F_13) (zac (zaf 0) (zac (zaf 1) zak)))) (zan (zbf 2 (zaz (zap 1 F_24) (zac (zaf 0) zak))) (zan (zdN (zaz (zap 2 F_21) (zac (cOp dIx (zaf 2) (cK (.int 0))) (zac (zaf 1) zak)))) (zbT (zaz zbo (zac (zao (iSq (zaf 1)) (zaw 0) (fun _=>pure true) zdy [none,some 2]) zak)))))
noncomputable def F_25:List D->M D:=zb6 3 G_25
theorem d_25 (x0 x1:D):F_25 [x0,x1]=(do let o<-G_25 [some x0,some x1,none];zb7 o):=rfl
noncomputable def G_55:FS:=zan (zbf 2 (cK (.str "told"))) (zan (ziF zet (zdN (zaz (zap 2 F_25) (zac (zaf 0) (zac (zaf 1) zak)))) 2 F_54) (zbT (zaf 2)))
noncomputable def F_55:List D->M D:=zb6 4 G_55
theorem d_55 (x0 x1:D):F_55 [x0,x1]=(do let o<-G_55 [some x0,some x1,none,none];zb7 o):=rfl
noncomputable def zgR:FE:=zaf 0
noncomputable def zgA:FT:=zc4 dGt (zaz (zap 2 F_39) (zac (zaf 1) (zac (cK (.int 4)) zak))) (cK (.int 0))
noncomputable def ziR:FE:=zaz (zap 3 F_53) (zac (zaf 1) (zac (zaf 2) (zac (zaf 0) zak)))
noncomputable def ziL:FE:=cOp dIx (zaf 1) (zaf 0)
noncomputable def zft:FS:=zan (zbf 11 (zaz (zap 2 F_52) (zac (zaf 4) (zac (zaf 10) zak)))) (zan (sIf (zc4 dNe (zaz (zap 2 F_55) (zac (zaf 3) (zac (zaf 10) zak))) (cOp dIx (zfb (zac (cK (.str "cover")) (zac (cK (.str "told")) zak))) (zaz zfP (zac (zaf 11) zak)))) (zbT (cK (.bl false))) zfZ) (sIf (zjs (zaf 11)) (zan (zbf 12 (zaz zbo (zac (zao (iSq (zaf 10)) (zaw 0) (fun _=>pure true) ziL [none,some 6]) zak))) (sIf (zc4 dNe (zaz (zap 2 F_25) (zac (zaf 3) (zac (zaf 10) zak))) (zaf 12)) (zbT (cK (.bl false))) zfZ)) zfZ))
noncomputable def zfX:FS:=zan (zbf 2 (zaz (zap 2 F_38) (zac (zaf 0) (zac (zaf 1) zak)))) (zan (zbf 3 (zaz (zap 1 F_50) (zac (zaf 2) zak))) (zan (zkQ (cOp dIx (zaz (zap 1 F_49) (zac (zaf 3) zak)) (cK (.int 0))) (zbO 3 (zau (zaw 4) (zau (zaw 5) (zau (zaw 6) zbP))))) (zan (zbf 7 (cUn zeI (zaz zdn (zac (zaf 6) zak)))) (zan (zbf 8 (zaz zbo (zac (zao (iSq (zaf 7)) (zaw 0) zgA zgR [none,some 2]) zak))) (zan (zbf 9 (zfb (zac (zaf 7) (zac (zaf 8) zak)))) (zan (zbf 9 (cOp zdo (zaf 9) (zao (iSq (zaf 9)) (zaw 0) (fun _=>pure true) ziR [none,some 2,some 4]))) (zkf (iSq (zaf 9)) (zaw 10) zft)))))))
noncomputable def G_56:FS:=zan (zkf (zfh (zac (zaz zlF (zac (cK (.int 1)) (zac (zaz zoS (zac (zaz zdn (zac (zaf 0) zak)) (zac (cK (.int 4)) zak))) zak))) zak)) (zaw 1) zfX) (zbT (cK (.bl true)))
noncomputable def F_56:List D->M D:=zb6 13 G_56
theorem d_56 (x0:D):F_56 [x0]=(do let o<-G_56 [some x0,none,none,none,none,none,none,none,none,none,none,none,none];zb7 o):=rfl
end K63
set_option genInjectivity false
set_option genSizeOf false
set_option genSizeOfSpec false
namespace K63
open PySem PySem.Spec PyProof.Rows L2 L3
noncomputable def top (i:Nat):Stmt:=PySem.Challenge.pw_cheapcovers_k63_covers_led_back.main.body.getD i (.Pass ⟨0,0,0,0⟩)
theorem zdl {A:Around} {k:Nat} (hr:zdV k A):A.units+60<cLine:=by have:=hr.units;omega
theorem zsR {P:Program} {w:World} {K:W.Frag} {mg:Str->Option Value} {base:Heap} {N:List Str} {qual:Str} {scope:Scope} {f:Addr} {cd:Value} {A:Around} {outer:List Env} {s:Shared} {H:Hp} {E:XK}:zfT (zib CX0 P w K mg base N qual scope f cd A outer s H E).nox:=⟨rfl,rfl,rfl⟩
theorem zkH:bootBuiltins "all"=some (.builtin "all"):=by decide +kernel
theorem zk8:bootBuiltins "bool"=some (.type "bool"):=by decide +kernel
theorem zkw:bootBuiltins "divmod"=some (.builtin "divmod"):=by decide +kernel
theorem zhc:bootBuiltins "int"=some (.type "int"):=by decide +kernel
theorem za5:bootBuiltins "len"=some (.builtin "len"):=by decide +kernel
theorem zgP:bootBuiltins "list"=some (.type "list"):=by decide +kernel
theorem zoa:bootBuiltins "max"=some (.builtin "max"):=by decide +kernel
theorem zrH:bootBuiltins "min"=some (.builtin "min"):=by decide +kernel
theorem zaR:bootBuiltins "tuple"=some (.type "tuple"):=by decide +kernel
noncomputable abbrev s_36:Stmt:=top 42
noncomputable abbrev s_37:Stmt:=top 43
noncomputable abbrev s_38:Stmt:=top 44
noncomputable abbrev s_39:Stmt:=top 45
noncomputable abbrev s_40:Stmt:=top 46
noncomputable abbrev s_41:Stmt:=top 47
noncomputable abbrev s_50:Stmt:=top 56
noncomputable abbrev s_44:Stmt:=top 50
noncomputable abbrev s_45:Stmt:=top 51
noncomputable abbrev s_46:Stmt:=top 52
noncomputable abbrev s_47:Stmt:=top 53
noncomputable abbrev s_48:Stmt:=top 54
noncomputable abbrev s_49:Stmt:=top 55
noncomputable abbrev s_43:Stmt:=top 49
noncomputable abbrev s_53:Stmt:=top 59
noncomputable abbrev s_42:Stmt:=top 48
noncomputable abbrev s_51:Stmt:=top 57
noncomputable abbrev s_52:Stmt:=top 58
noncomputable abbrev s_54:Stmt:=top 60
noncomputable abbrev s_8:Stmt:=top 10
noncomputable abbrev s_9:Stmt:=top 11
noncomputable abbrev s_10:Stmt:=top 13
noncomputable abbrev s_13:Stmt:=top 16
noncomputable abbrev s_35:Stmt:=top 40
noncomputable abbrev s_15:Stmt:=top 18
noncomputable abbrev s_16:Stmt:=top 19
noncomputable abbrev s_11:Stmt:=top 14
noncomputable abbrev s_12:Stmt:=top 15
noncomputable abbrev s_32:Stmt:=top 37
noncomputable abbrev s_31:Stmt:=top 36
noncomputable abbrev s_30:Stmt:=top 35
noncomputable abbrev s_27:Stmt:=top 32
noncomputable abbrev s_26:Stmt:=top 31
noncomputable abbrev s_22:Stmt:=top 27
noncomputable abbrev s_17:Stmt:=top 20
noncomputable abbrev s_29:Stmt:=top 34
noncomputable abbrev s_28:Stmt:=top 33
noncomputable abbrev s_23:Stmt:=top 28
noncomputable abbrev s_19:Stmt:=top 22
noncomputable abbrev s_18:Stmt:=top 21
noncomputable abbrev s_34:Stmt:=top 39
noncomputable abbrev s_33:Stmt:=top 38
noncomputable abbrev s_24:Stmt:=top 29
noncomputable abbrev s_14:Stmt:=top 17
noncomputable abbrev s_20:Stmt:=top 24
noncomputable abbrev s_21:Stmt:=top 25
noncomputable abbrev s_25:Stmt:=top 30
noncomputable abbrev s_55:Stmt:=top 61
noncomputable abbrev s_56:Stmt:=top 62
structure Ad where
 a_0:Addr
 a_1:Addr
 a_2:Addr
 a_3:Addr
 a_4:Addr
 a_5:Addr
 a_6:Addr
 a_7:Addr
 a_36:Addr
 d_36:FuncData
 a_37:Addr
 d_37:FuncData
 a_38:Addr
 d_38:FuncData
 a_39:Addr
 d_39:FuncData
 a_40:Addr
 d_40:FuncData
 a_41:Addr
 d_41:FuncData
 a_50:Addr
 d_50:FuncData
 a_44:Addr
 d_44:FuncData
 a_45:Addr
 d_45:FuncData
 a_46:Addr
 d_46:FuncData
 a_47:Addr
 d_47:FuncData
 a_48:Addr
 d_48:FuncData
 a_49:Addr
 d_49:FuncData
 a_43:Addr
 d_43:FuncData
 a_53:Addr
 d_53:FuncData
 a_42:Addr
 d_42:FuncData
 a_51:Addr
 d_51:FuncData
 a_52:Addr
 d_52:FuncData
 a_54:Addr
 d_54:FuncData
 a_8:Addr
 d_8:FuncData
 a_9:Addr
 d_9:FuncData
 a_10:Addr
 d_10:FuncData
 a_13:Addr
 d_13:FuncData
 a_35:Addr
 d_35:FuncData
 a_15:Addr
 d_15:FuncData
 a_16:Addr
 d_16:FuncData
 a_11:Addr
 d_11:FuncData
 a_12:Addr
 d_12:FuncData
 a_32:Addr
 d_32:FuncData
 a_31:Addr
 d_31:FuncData
 a_30:Addr
 d_30:FuncData
 a_27:Addr
 d_27:FuncData
 a_26:Addr
 d_26:FuncData
 a_22:Addr
 d_22:FuncData
 a_17:Addr
 d_17:FuncData
 a_29:Addr
 d_29:FuncData
 a_28:Addr
 d_28:FuncData
 a_23:Addr
 d_23:FuncData
 a_19:Addr
 d_19:FuncData
 a_18:Addr
 d_18:FuncData
 a_34:Addr
 d_34:FuncData
 a_33:Addr
 d_33:FuncData
 a_24:Addr
 d_24:FuncData
 a_14:Addr
 d_14:FuncData
 a_20:Addr
 d_20:FuncData
 a_21:Addr
 d_21:FuncData
 a_25:Addr
 d_25:FuncData
 a_55:Addr
 d_55:FuncData
 a_56:Addr
 d_56:FuncData
structure Tx (K:W.Frag) (mg:Str->Option Value) (t:Ad):Prop where
 n_all:mg "all"=none
 n_bool:mg "bool"=none
 n_divmod:mg "divmod"=none
 n_enumerate:mg "enumerate"=none
 n_int:mg "int"=none
 n_isinstance:mg "isinstance"=none
 n_len:mg "len"=none
 n_list:mg "list"=none
 n_max:mg "max"=none
 n_min:mg "min"=none
 n_range:mg "range"=none
 n_set:mg "set"=none
 n_sorted:mg "sorted"=none
 n_tuple:mg "tuple"=none
 g_0:mg "CoverError"=some (.ref t.a_0)
 g_1:mg "NoStock"=some (.ref t.a_1)
 g_2:mg "NoOffer"=some (.ref t.a_2)
 g_3:mg "NoThing"=some (.ref t.a_3)
 g_4:mg "NoCover"=some (.ref t.a_4)
 g_5:mg "NoNumber"=some (.ref t.a_5)
 g_6:mg "NotFull"=some (.ref t.a_6)
 g_7:mg "NoRow"=some (.ref t.a_7)
 k_1:zcS K "NoStock" t.a_1
 k_2:zcS K "NoOffer" t.a_2
 k_3:zcS K "NoThing" t.a_3
 k_4:zcS K "NoCover" t.a_4
 k_5:zcS K "NoNumber" t.a_5
 k_6:zcS K "NotFull" t.a_6
 k_7:zcS K "NoRow" t.a_7
 x_exc:zmq K t.a_0 zet
 m_36:mg "_law_cell"=some (.ref t.a_36)
 F_36:Fun K "_law_cell" "_law_cell" s_36 t.a_36 t.d_36
 b_36:zaJ K t.d_36 ["script","k"] []
 m_37:mg "_law_mix"=some (.ref t.a_37)
 F_37:Fun K "_law_mix" "_law_mix" s_37 t.a_37 t.d_37
 b_37:zaJ K t.d_37 ["cell","k"] []
 m_38:mg "_law_box"=some (.ref t.a_38)
 F_38:Fun K "_law_box" "_law_box" s_38 t.a_38 t.d_38
 b_38:zaJ K t.d_38 ["script","k"] []
 m_39:mg "_law_take"=some (.ref t.a_39)
 F_39:Fun K "_law_take" "_law_take" s_39 t.a_39 t.d_39
 b_39:zaJ K t.d_39 ["box","many"] []
 m_40:mg "_law_stock"=some (.ref t.a_40)
 F_40:Fun K "_law_stock" "_law_stock" s_40 t.a_40 t.d_40
 b_40:zaJ K t.d_40 ["box","most_things","most_offers"] []
 m_41:mg "_law_full"=some (.ref t.a_41)
 F_41:Fun K "_law_full" "_law_full" s_41 t.a_41 t.d_41
 b_41:zaJ K t.d_41 ["box","most_things","most_offers"] []
 m_50:mg "_law_alike_stock"=some (.ref t.a_50)
 F_50:Fun K "_law_alike_stock" "_law_alike_stock" s_50 t.a_50 t.d_50
 b_50:zaJ K t.d_50 ["box"] []
 m_44:mg "_law_rules"=some (.ref t.a_44)
 F_44:Fun K "_law_rules" "_law_rules" s_44 t.a_44 t.d_44
 b_44:zaJ K t.d_44 ["stock","by","offer"] []
 m_45:mg "_law_have"=some (.ref t.a_45)
 F_45:Fun K "_law_have" "_law_have" s_45 t.a_45 t.d_45
 b_45:zaJ K t.d_45 ["stock","thing"] []
 m_46:mg "_law_thing_rules"=some (.ref t.a_46)
 F_46:Fun K "_law_thing_rules" "_law_thing_rules" s_46 t.a_46 t.d_46
 b_46:zaJ K t.d_46 ["stock","by","thing"] []
 m_47:mg "_law_ruled"=some (.ref t.a_47)
 F_47:Fun K "_law_ruled" "_law_ruled" s_47 t.a_47 t.d_47
 b_47:zaJ K t.d_47 ["stock","things"] []
 m_48:mg "_law_left"=some (.ref t.a_48)
 F_48:Fun K "_law_left" "_law_left" s_48 t.a_48 t.d_48
 b_48:zaJ K t.d_48 ["stock","things","offers"] []
 m_49:mg "_law_swept"=some (.ref t.a_49)
 F_49:Fun K "_law_swept" "_law_swept" s_49 t.a_49 t.d_49
 b_49:zaJ K t.d_49 ["stock"] []
 m_43:mg "_law_odd"=some (.ref t.a_43)
 F_43:Fun K "_law_odd" "_law_odd" s_43 t.a_43 t.d_43
 b_43:zaJ K t.d_43 ["box"] []
 m_53:mg "_law_bent"=some (.ref t.a_53)
 F_53:Fun K "_law_bent" "_law_bent" s_53 t.a_53 t.d_53
 b_53:zaJ K t.d_53 ["box","stock","lot"] []
 m_42:mg "_law_whole"=some (.ref t.a_42)
 F_42:Fun K "_law_whole" "_law_whole" s_42 t.a_42 t.d_42
 b_42:zaJ K t.d_42 ["found"] []
 m_51:mg "_law_is_lot"=some (.ref t.a_51)
 F_51:Fun K "_law_is_lot" "_law_is_lot" s_51 t.a_51 t.d_51
 b_51:zaJ K t.d_51 ["stock","thing"] []
 m_52:mg "_law_is_cover"=some (.ref t.a_52)
 F_52:Fun K "_law_is_cover" "_law_is_cover" s_52 t.a_52 t.d_52
 b_52:zaJ K t.d_52 ["stock","thing"] []
 m_54:mg "_law_kind"=some (.ref t.a_54)
 F_54:Fun K "_law_kind" "_law_kind" s_54 t.a_54 t.d_54
 b_54:zaJ K t.d_54 ["e"] []
 m_8:mg "is_whole"=some (.ref t.a_8)
 F_8:Fun K "is_whole" "is_whole" s_8 t.a_8 t.d_8
 b_8:zaJ K t.d_8 ["thing"] []
 m_9:mg "is_rising"=some (.ref t.a_9)
 F_9:Fun K "is_rising" "is_rising" s_9 t.a_9 t.d_9
 b_9:zaJ K t.d_9 ["thing","bound"] []
 m_10:mg "is_lot"=some (.ref t.a_10)
 F_10:Fun K "is_lot" "is_lot" s_10 t.a_10 t.d_10
 b_10:zaJ K t.d_10 ["stock","thing"] []
 m_13:mg "need_lot"=some (.ref t.a_13)
 F_13:Fun K "need_lot" "need_lot" s_13 t.a_13 t.d_13
 b_13:zaJ K t.d_13 ["stock","lot"] []
 m_35:mg "not_ruled"=some (.ref t.a_35)
 F_35:Fun K "not_ruled" "not_ruled" s_35 t.a_35 t.d_35
 b_35:zaJ K t.d_35 ["count","ruled"] []
 m_15:mg "things_together"=some (.ref t.a_15)
 F_15:Fun K "things_together" "things_together" s_15 t.a_15 t.d_15
 b_15:zaJ K t.d_15 ["offers"] []
 m_16:mg "have_all"=some (.ref t.a_16)
 F_16:Fun K "have_all" "have_all" s_16 t.a_16 t.d_16
 b_16:zaJ K t.d_16 ["stock","offers"] []
 m_11:mg "is_full"=some (.ref t.a_11)
 F_11:Fun K "is_full" "is_full" s_11 t.a_11 t.d_11
 b_11:zaJ K t.d_11 ["stock"] []
 m_12:mg "need_full"=some (.ref t.a_12)
 F_12:Fun K "need_full" "need_full" s_12 t.a_12 t.d_12
 b_12:zaJ K t.d_12 ["stock"] []
 m_32:mg "rules"=some (.ref t.a_32)
 F_32:Fun K "rules" "rules" s_32 t.a_32 t.d_32
 b_32:zaJ K t.d_32 ["table","other","number"] []
 m_31:mg "ruled_by"=some (.ref t.a_31)
 F_31:Fun K "ruled_by" "ruled_by" s_31 t.a_31 t.d_31
 b_31:zaJ K t.d_31 ["table"] []
 m_30:mg "are_among"=some (.ref t.a_30)
 F_30:Fun K "are_among" "are_among" s_30 t.a_30 t.d_30
 b_30:zaJ K t.d_30 ["numbers","others"] []
 m_27:mg "as_good_offers"=some (.ref t.a_27)
 F_27:Fun K "as_good_offers" "as_good_offers" s_27 t.a_27 t.d_27
 b_27:zaJ K t.d_27 ["stock","offer"] []
 m_26:mg "table_of_offers"=some (.ref t.a_26)
 F_26:Fun K "table_of_offers" "table_of_offers" s_26 t.a_26 t.d_26
 b_26:zaJ K t.d_26 ["stock"] []
 m_22:mg "ruled_offers"=some (.ref t.a_22)
 F_22:Fun K "ruled_offers" "ruled_offers" s_22 t.a_22 t.d_22
 b_22:zaJ K t.d_22 ["stock"] []
 m_17:mg "offers_with"=some (.ref t.a_17)
 F_17:Fun K "offers_with" "offers_with" s_17 t.a_17 t.d_17
 b_17:zaJ K t.d_17 ["stock","thing"] []
 m_29:mg "as_scarce_things"=some (.ref t.a_29)
 F_29:Fun K "as_scarce_things" "as_scarce_things" s_29 t.a_29 t.d_29
 b_29:zaJ K t.d_29 ["stock","thing"] []
 m_28:mg "table_of_things"=some (.ref t.a_28)
 F_28:Fun K "table_of_things" "table_of_things" s_28 t.a_28 t.d_28
 b_28:zaJ K t.d_28 ["stock"] []
 m_23:mg "ruled_things"=some (.ref t.a_23)
 F_23:Fun K "ruled_things" "ruled_things" s_23 t.a_23 t.d_23
 b_23:zaJ K t.d_23 ["stock"] []
 m_19:mg "narrowed"=some (.ref t.a_19)
 F_19:Fun K "narrowed" "narrowed" s_19 t.a_19 t.d_19
 b_19:zaJ K t.d_19 ["offer","things"] []
 m_18:mg "rest_of"=some (.ref t.a_18)
 F_18:Fun K "rest_of" "rest_of" s_18 t.a_18 t.d_18
 b_18:zaJ K t.d_18 ["stock","things","numbers"] []
 m_34:mg "behind_sweep"=some (.ref t.a_34)
 F_34:Fun K "behind_sweep" "behind_sweep" s_34 t.a_34 t.d_34
 b_34:zaJ K t.d_34 ["stay"] []
 m_33:mg "stays_by_sweeps"=some (.ref t.a_33)
 F_33:Fun K "stays_by_sweeps" "stays_by_sweeps" s_33 t.a_33 t.d_33
 b_33:zaJ K t.d_33 ["stock"] []
 m_24:mg "lesser_stock"=some (.ref t.a_24)
 F_24:Fun K "lesser_stock" "lesser_stock" s_24 t.a_24 t.d_24
 b_24:zaJ K t.d_24 ["stock"] []
 m_14:mg "offers_of"=some (.ref t.a_14)
 F_14:Fun K "offers_of" "offers_of" s_14 t.a_14 t.d_14
 b_14:zaJ K t.d_14 ["stock","lot"] []
 m_20:mg "is_cover"=some (.ref t.a_20)
 F_20:Fun K "is_cover" "is_cover" s_20 t.a_20 t.d_20
 b_20:zaJ K t.d_20 ["stock","thing"] []
 m_21:mg "need_cover"=some (.ref t.a_21)
 F_21:Fun K "need_cover" "need_cover" s_21 t.a_21 t.d_21
 b_21:zaJ K t.d_21 ["stock","cover"] []
 m_25:mg "led_back"=some (.ref t.a_25)
 F_25:Fun K "led_back" "led_back" s_25 t.a_25 t.d_25
 b_25:zaJ K t.d_25 ["stock","lot"] []
 m_55:mg "_law_said"=some (.ref t.a_55)
 F_55:Fun K "_law_said" "_law_said" s_55 t.a_55 t.d_55
 b_55:zaJ K t.d_55 ["stock","thing"] []
 m_56:mg "law"=some (.ref t.a_56)
 F_56:Fun K "law" "law" s_56 t.a_56 t.d_56
 b_56:zaJ K t.d_56 ["script"] []
section
variable {P:Program} {w:World} {K:W.Frag} {mg:Str->Option Value} {base:Heap} {t:Ad}
theorem sc_36:zal ["script","k"] ["script","k"] (zae s_36):=⟨rfl,rfl,rfl,by decide +kernel,rfl,by decide +kernel,by decide +kernel⟩
theorem ok_36 (T:Tx K mg t):zbq P w K mg base CX0 1 t.a_36 t.d_36 ["script","k"] (zbV K 2 F_36):=by
 refine zbj (k:=0) (G:=G_36) (N:=["script","k"]) (ps:=["script","k"]) (st:=s_36) T.F_36 sc_36 fun cdv A outer s H E hr=> ?_
 refine zag ?_ ?_
 refine zgi ?_ ?_ ?_
 refine zaO ?_ ?_ ?_
 exact zfI
 exact zab 1
 refine zaG (id:="len") ?_ ?_ ?_ ?_
 exact zav
 exact za5
 exact T.n_len
 refine zaa ?_ ?_
 exact zab 0
 exact zad
 refine zaj ?_
 refine zaN ?_
 refine za1 ?_ ?_
 exact zab 0
 exact zab 1
 exact zbJ
 refine zaj ?_
 refine zaN ?_
 refine zcz ?_ ?_ ?_
 exact zaM
 refine zcz ?_ ?_ ?_
 exact zpq
 exact zai
 exact zab 1
 exact zai
theorem nd_37:(["cell","k","number"]:List Str).Nodup:=by decide +kernel
theorem sc_37:zal ["cell","k","number"] ["cell","k"] (zae s_37):=⟨rfl,rfl,rfl,by decide +kernel,rfl,by decide +kernel,by decide +kernel⟩
theorem ok_37 (T:Tx K mg t):zbq P w K mg base CX0 1 t.a_37 t.d_37 ["cell","k"] (zbV K 2 F_37):=by
 refine zbj (k:=0) (G:=G_37) (N:=["cell","k","number"]) (ps:=["cell","k"]) (st:=s_37) T.F_37 sc_37 fun cdv A outer s H E hr=> ?_
 refine zag ?_ ?_
 refine zaH 2 ?_ ?_
 exact nd_37
 refine zcz ?_ ?_ ?_
 exact zaM
 refine zcz ?_ ?_ ?_
 exact zfE
 refine zcz ?_ ?_ ?_
 exact zaM
 exact zab 0
 exact zai
 exact zai
 refine zcz ?_ ?_ ?_
 exact zfE
 exact zai
 exact zab 1
 refine zag ?_ ?_
 refine zaH 2 ?_ ?_
 exact nd_37
 refine zcz ?_ ?_ ?_
 exact zaM
 refine zcz ?_ ?_ ?_
 exact ziq
 refine zcz ?_ ?_ ?_
 exact zfE
 exact zab 2
 exact zab 2
 exact zai
 exact zab 1
 refine zaj ?_
 refine zaN ?_
 refine zcz ?_ ?_ ?_
 exact ziq
 refine zcz ?_ ?_ ?_
 exact zfE
 exact zab 2
 refine zcz ?_ ?_ ?_
 exact zaM
 exact zab 2
 exact zai
 exact zai
theorem nd_38:(["script","k","here","number","j"]:List Str).Nodup:=by decide +kernel
theorem sc_38:zal ["script","k","here","number","j"] ["script","k"] (zae s_38):=⟨rfl,rfl,rfl,by decide +kernel,rfl,by decide +kernel,by decide +kernel⟩
theorem ok_38 (T:Tx K mg t):zbq P w K mg base CX0 2 t.a_38 t.d_38 ["script","k"] (zbV K 2 F_38):=by
 have G_36:=ok_36 (P:=P) (w:=w) (base:=base) T
 have G_37:=ok_37 (P:=P) (w:=w) (base:=base) T
 refine zbj (k:=1) (G:=G_38) (N:=["script","k","here","number","j"]) (ps:=["script","k"]) (st:=s_38) T.F_38 sc_38 fun cdv A outer s H E hr=> ?_
 refine zag ?_ ?_
 refine zaH 2 ?_ ?_
 exact nd_38
 refine zaB (k:=1) (g:=t.a_36) (fd:=t.d_36) (ps:=["script","k"]) ?_ ?_ ?_ ?_ ?_ ?_
 exact G_36
 exact (hr.mono (by decide))
 exact T.m_36
 exact T.F_36.kp
 exact T.b_36
 refine zaa ?_ ?_
 exact zab 0
 refine zaa ?_ ?_
 exact zab 1
 exact zad
 refine zag ?_ ?_
 refine zgi ?_ ?_ ?_
 refine zaO ?_ ?_ ?_
 exact (zcn (zdl hr))
 refine zcz ?_ ?_ ?_
 exact ziq
 exact zab 2
 exact zai
 exact zai
 refine zaj ?_
 refine zaN ?_
 refine zef ?_
 refine zaa ?_ ?_
 refine zcz ?_ ?_ ?_
 exact zm8
 exact zab 2
 exact zai
 exact zad
 exact zbJ
 refine zag ?_ ?_
 refine zaH 3 ?_ ?_
 exact nd_38
 exact zai
 refine zag ?_ ?_
 refine zf4 ?_ ?_ ?_ ?_ ?_
 exact rfl
 exact PassesOwn.never
 refine zew ?_ ?_
 exact T.n_range
 refine zaa ?_ ?_
 exact zai
 exact zad
 exact zah 4 nd_38
 refine zaj ?_
 refine zaH 3 ?_ ?_
 exact nd_38
 refine zcz ?_ ?_ ?_
 exact zaM
 refine zcz ?_ ?_ ?_
 exact zfE
 exact zab 3
 exact zai
 refine zaB (k:=1) (g:=t.a_37) (fd:=t.d_37) (ps:=["cell","k"]) ?_ ?_ ?_ ?_ ?_ ?_
 exact G_37
 exact (hr.mono (by decide))
 exact T.m_37
 exact T.F_37.kp
 exact T.b_37
 refine zaa ?_ ?_
 exact zab 2
 refine zaa ?_ ?_
 exact zab 4
 exact zad
 refine zaj ?_
 refine zaN ?_
 refine zef ?_
 refine zaa ?_ ?_
 exact zab 3
 exact zad
theorem nd_39:(["box","many","left","digit"]:List Str).Nodup:=by decide +kernel
theorem sc_39:zal ["box","many","left","digit"] ["box","many"] (zae s_39):=⟨rfl,rfl,rfl,by decide +kernel,rfl,by decide +kernel,by decide +kernel⟩
theorem ok_39 (T:Tx K mg t):zbq P w K mg base CX0 1 t.a_39 t.d_39 ["box","many"] (zbV K 2 F_39):=by
 refine zbj (k:=0) (G:=G_39) (N:=["box","many","left","digit"]) (ps:=["box","many"]) (st:=s_39) T.F_39 sc_39 fun cdv A outer s H E hr=> ?_
 refine zag ?_ ?_
 refine zgH ?_ ?_
 refine zaG (id:="divmod") ?_ ?_ ?_ ?_
 exact zhq
 exact zkw
 exact T.n_divmod
 refine zaa ?_ ?_
 refine za1 ?_ ?_
 exact zab 0
 exact zai
 refine zaa ?_ ?_
 exact zab 1
 exact zad
 refine zcE ?_ ?_
 exact rfl
 refine zaD ?_ ?_
 exact zah 2 nd_39
 refine zaD ?_ ?_
 exact zah 3 nd_39
 exact zbL
 refine zag ?_ ?_
 refine zgH ?_ ?_
 exact zab 2
 refine zrR ?_ ?_
 exact zab 0
 exact zai
 refine zaj ?_
 refine zaN ?_
 exact zab 3
theorem nd_40:(["box","most_things","most_offers","many","kind","full","offers","turn","things"]:List Str).Nodup:=by decide +kernel
theorem zqM:(["thing","box","full"]:List Str).Nodup:=by decide +kernel
theorem sc_40:zal ["box","most_things","most_offers","many","kind","full","offers","turn","things"] ["box","most_things","most_offers"] (zae s_40):=⟨rfl,rfl,rfl,by decide +kernel,rfl,by decide +kernel,by decide +kernel⟩
theorem ok_40 (T:Tx K mg t):zbq P w K mg base CX0 2 t.a_40 t.d_40 ["box","most_things","most_offers"] (zbV K 3 F_40):=by
 have G_39:=ok_39 (P:=P) (w:=w) (base:=base) T
 refine zbj (k:=1) (G:=G_40) (N:=["box","most_things","most_offers","many","kind","full","offers","turn","things"]) (ps:=["box","most_things","most_offers"]) (st:=s_40) T.F_40 sc_40 fun cdv A outer s H E hr=> ?_
 refine zag ?_ ?_
 refine zaH 3 ?_ ?_
 exact nd_40
 refine zcz ?_ ?_ ?_
 exact zaM
 exact zai
 refine zaB (k:=1) (g:=t.a_39) (fd:=t.d_39) (ps:=["box","many"]) ?_ ?_ ?_ ?_ ?_ ?_
 exact G_39
 exact (hr.mono (by decide))
 exact T.m_39
 exact T.F_39.kp
 exact T.b_39
 refine zaa ?_ ?_
 exact zab 0
 refine zaa ?_ ?_
 exact zab 1
 exact zad
 refine zag ?_ ?_
 refine zaH 4 ?_ ?_
 exact nd_40
 refine za1 ?_ ?_
 refine zct ?_
 refine zaa ?_ ?_
 exact zai
 refine zaa ?_ ?_
 exact zai
 refine zaa ?_ ?_
 exact zai
 refine zaa ?_ ?_
 refine zcz ?_ ?_ ?_
 exact zmn
 exact zai
 exact zai
 exact zad
 refine zaB (k:=1) (g:=t.a_39) (fd:=t.d_39) (ps:=["box","many"]) ?_ ?_ ?_ ?_ ?_ ?_
 exact G_39
 exact (hr.mono (by decide))
 exact T.m_39
 exact T.F_39.kp
 exact T.b_39
 refine zaa ?_ ?_
 exact zab 0
 refine zaa ?_ ?_
 exact zai
 exact zad
 refine zag ?_ ?_
 refine zaH 5 ?_ ?_
 exact nd_40
 refine zaB (k:=1) (g:=t.a_39) (fd:=t.d_39) (ps:=["box","many"]) ?_ ?_ ?_ ?_ ?_ ?_
 exact G_39
 exact (hr.mono (by decide))
 exact T.m_39
 exact T.F_39.kp
 exact T.b_39
 refine zaa ?_ ?_
 exact zab 0
 refine zaa ?_ ?_
 exact zai
 exact zad
 refine zag ?_ ?_
 refine zaH 6 ?_ ?_
 exact nd_40
 refine zef ?_
 exact zad
 refine zag ?_ ?_
 refine zf4 ?_ ?_ ?_ ?_ ?_
 exact rfl
 exact PassesOwn.never
 refine zew ?_ ?_
 exact T.n_range
 refine zaa ?_ ?_
 refine zaB (k:=1) (g:=t.a_39) (fd:=t.d_39) (ps:=["box","many"]) ?_ ?_ ?_ ?_ ?_ ?_
 exact G_39
 exact (hr.mono (by decide))
 exact T.m_39
 exact T.F_39.kp
 exact T.b_39
 refine zaa ?_ ?_
 exact zab 0
 refine zaa ?_ ?_
 refine zcz ?_ ?_ ?_
 exact zaM
 exact zab 2
 exact zai
 exact zad
 exact zad
 exact zah 7 nd_40
 refine zag ?_ ?_
 refine zdE 8 (N:=["thing","box","full"]) ?_ ?_ ?_ ?_ ?_ ?_ ?_ ?_
 exact rfl
 exact nd_40
 exact (BOk.of (Xn:=(zae s_40).names) (XN:=["box","most_things","most_offers","many","kind","full","offers","turn","things"]) rfl rfl rfl (by decide +kernel))
 exact (zaA.name (i:=0) rfl)
 refine zew ?_ ?_
 exact T.n_range
 refine zaa ?_ ?_
 exact zab 3
 exact zad
 intro _ _ _
 exact zah 0 zqM
 intro _ _ _
 refine zbN ?_
 refine zaO ?_ ?_ ?_
 exact zlM
 refine zaB (k:=1) (g:=t.a_39) (fd:=t.d_39) (ps:=["box","many"]) ?_ ?_ ?_ ?_ ?_ ?_
 exact G_39
 exact (hr.mono (by decide))
 exact T.m_39
 exact T.F_39.kp
 exact T.b_39
 refine zaa ?_ ?_
 exact zab 1
 refine zaa ?_ ?_
 exact zai
 exact zad
 exact zab 2
 intro _ _ _
 exact zab 0
 refine zag ?_ ?_
 refine zgi ?_ ?_ ?_
 refine zaO ?_ ?_ ?_
 exact (zcn (zdl hr))
 exact zab 8
 refine zct ?_
 exact zad
 refine zaj ?_
 refine zaH 8 ?_ ?_
 exact nd_40
 refine zct ?_
 refine zaa ?_ ?_
 refine zaB (k:=1) (g:=t.a_39) (fd:=t.d_39) (ps:=["box","many"]) ?_ ?_ ?_ ?_ ?_ ?_
 exact G_39
 exact (hr.mono (by decide))
 exact T.m_39
 exact T.F_39.kp
 exact T.b_39
 refine zaa ?_ ?_
 exact zab 0
 refine zaa ?_ ?_
 exact zab 3
 exact zad
 exact zad
 exact zbJ
 refine zaj ?_
 refine zcx ?_
 refine zdf ?_ ?_
 exact zab 6
 refine zbb ?_
 refine zaa ?_ ?_
 refine zaI (T:="tuple") ?_ ?_ ?_ ?_
 exact zay
 exact zaR
 exact T.n_tuple
 refine zaa ?_ ?_
 exact zab 8
 exact zad
 refine zaa ?_ ?_
 refine zcz ?_ ?_ ?_
 exact zaM
 exact zai
 refine zaB (k:=1) (g:=t.a_39) (fd:=t.d_39) (ps:=["box","many"]) ?_ ?_ ?_ ?_ ?_ ?_
 exact G_39
 exact (hr.mono (by decide))
 exact T.m_39
 exact T.F_39.kp
 exact T.b_39
 refine zaa ?_ ?_
 exact zab 0
 refine zaa ?_ ?_
 exact zab 4
 exact zad
 exact zad
 refine zaj ?_
 refine zaN ?_
 refine zbb ?_
 refine zaa ?_ ?_
 exact zab 3
 refine zaa ?_ ?_
 refine zaI (T:="tuple") ?_ ?_ ?_ ?_
 exact zay
 exact zaR
 exact T.n_tuple
 refine zaa ?_ ?_
 exact zab 6
 exact zad
 exact zad
theorem nd_41:(["box","most_things","most_offers","many","offers","left","at"]:List Str).Nodup:=by decide +kernel
theorem zsj:(["thing","offers"]:List Str).Nodup:=by decide +kernel
theorem zqS:(["one","thing"]:List Str).Nodup:=by decide +kernel
theorem sc_41:zal ["box","most_things","most_offers","many","offers","left","at"] ["box","most_things","most_offers"] (zae s_41):=⟨rfl,rfl,rfl,by decide +kernel,rfl,by decide +kernel,by decide +kernel⟩
theorem ok_41 (T:Tx K mg t):zbq P w K mg base CX0 3 t.a_41 t.d_41 ["box","most_things","most_offers"] (zbV K 3 F_41):=by
 have G_40:=ok_40 (P:=P) (w:=w) (base:=base) T
 have G_39:=ok_39 (P:=P) (w:=w) (base:=base) T
 refine zbj (k:=2) (G:=G_41) (N:=["box","most_things","most_offers","many","offers","left","at"]) (ps:=["box","most_things","most_offers"]) (st:=s_41) T.F_41 sc_41 fun cdv A outer s H E hr=> ?_
 refine zag ?_ ?_
 refine zgH ?_ ?_
 refine zaB (k:=2) (g:=t.a_40) (fd:=t.d_40) (ps:=["box","most_things","most_offers"]) ?_ ?_ ?_ ?_ ?_ ?_
 exact G_40
 exact (hr.mono (by decide))
 exact T.m_40
 exact T.F_40.kp
 exact T.b_40
 refine zaa ?_ ?_
 exact zab 0
 refine zaa ?_ ?_
 exact zab 1
 refine zaa ?_ ?_
 refine zcz ?_ ?_ ?_
 exact zmk
 exact zab 2
 exact zai
 exact zad
 refine zcE ?_ ?_
 exact rfl
 refine zaD ?_ ?_
 exact zah 3 nd_41
 refine zaD ?_ ?_
 exact zah 4 nd_41
 exact zbL
 refine zag ?_ ?_
 refine zaH 5 ?_ ?_
 exact nd_41
 refine zaI (T:="tuple") ?_ ?_ ?_ ?_
 exact zay
 exact zaR
 exact T.n_tuple
 refine zaa ?_ ?_
 refine zaQ (N:=["thing","offers"]) ?_ ?_ ?_ ?_ ?_ ?_ ?_
 exact rfl
 exact (BOk.of (Xn:=(zae s_41).names) (XN:=["box","most_things","most_offers","many","offers","left","at"]) rfl rfl rfl (by decide +kernel))
 exact (zaA.name (i:=0) rfl)
 refine zew ?_ ?_
 exact T.n_range
 refine zaa ?_ ?_
 exact zab 3
 exact zad
 intro _ _ _
 exact zah 0 zsj
 intro _ _ _
 refine zbN ?_
 refine zaO ?_ ?_ ?_
 exact (zcn (zdl hr))
 refine zaQ (N:=["one","thing"]) ?_ ?_ ?_ ?_ ?_ ?_ ?_
 exact rfl
 exact (BOk.of (N:=["one","thing"]) (src:=[none,some 0]) rfl rfl rfl (by rfl))
 exact (zaA.name (i:=0) rfl)
 refine zbz ?_
 exact zab 1
 intro _ _ _
 exact zah 0 zqS
 intro _ _ _
 refine zbN ?_
 refine zaO ?_ ?_ ?_
 exact (zfv (zdl hr))
 exact zab 1
 refine za1 ?_ ?_
 exact zab 0
 exact zai
 intro _ _ _
 exact zab 0
 refine zct ?_
 exact zad
 intro _ _ _
 exact zab 0
 exact zad
 refine zag ?_ ?_
 refine zaH 6 ?_ ?_
 exact nd_41
 refine zaB (k:=1) (g:=t.a_39) (fd:=t.d_39) (ps:=["box","many"]) ?_ ?_ ?_ ?_ ?_ ?_
 exact G_39
 exact (hr.mono (by decide))
 exact T.m_39
 exact T.F_39.kp
 exact T.b_39
 refine zaa ?_ ?_
 exact zab 0
 refine zaa ?_ ?_
 refine zcz ?_ ?_ ?_
 exact zaM
 refine zaG (id:="len") ?_ ?_ ?_ ?_
 exact zav
 exact za5
 exact T.n_len
 refine zaa ?_ ?_
 exact zab 4
 exact zad
 exact zai
 exact zad
 refine zag ?_ ?_
 refine zgi ?_ ?_ ?_
 refine zaO ?_ ?_ ?_
 exact (zeA (zdl hr))
 exact zab 5
 refine zbb ?_
 exact zad
 refine zaj ?_
 refine zaH 4 ?_ ?_
 exact nd_41
 refine zcz ?_ ?_ ?_
 exact zaM
 refine zcz ?_ ?_ ?_
 exact zaM
 refine zci ?_ ?_ ?_
 exact zab 4
 exact zdd
 refine zdh ?_
 exact zab 6
 refine zbb ?_
 refine zaa ?_ ?_
 refine zbb ?_
 refine zaa ?_ ?_
 exact zab 5
 refine zaa ?_ ?_
 refine zcz ?_ ?_ ?_
 exact zaM
 exact zai
 refine zaB (k:=1) (g:=t.a_39) (fd:=t.d_39) (ps:=["box","many"]) ?_ ?_ ?_ ?_ ?_ ?_
 exact G_39
 exact (hr.mono (by decide))
 exact T.m_39
 exact T.F_39.kp
 exact T.b_39
 refine zaa ?_ ?_
 exact zab 0
 refine zaa ?_ ?_
 exact zai
 exact zad
 exact zad
 exact zad
 refine zci ?_ ?_ ?_
 exact zab 4
 refine zdh ?_
 exact zab 6
 exact zdd
 exact zbJ
 refine zaj ?_
 refine zaN ?_
 refine zbb ?_
 refine zaa ?_ ?_
 exact zab 3
 refine zaa ?_ ?_
 exact zab 4
 exact zad
theorem nd_50:(["box","many","offers","found","things","price","at","fewer"]:List Str).Nodup:=by decide +kernel
theorem sc_50:zal ["box","many","offers","found","things","price","at","fewer"] ["box"] (zae s_50):=⟨rfl,rfl,rfl,by decide +kernel,rfl,by decide +kernel,by decide +kernel⟩
theorem ok_50 (T:Tx K mg t):zbq P w K mg base CX0 4 t.a_50 t.d_50 ["box"] (zbV K 1 F_50):=by
 have G_41:=ok_41 (P:=P) (w:=w) (base:=base) T
 have G_39:=ok_39 (P:=P) (w:=w) (base:=base) T
 refine zbj (k:=3) (G:=G_50) (N:=["box","many","offers","found","things","price","at","fewer"]) (ps:=["box"]) (st:=s_50) T.F_50 sc_50 fun cdv A outer s H E hr=> ?_
 refine zag ?_ ?_
 refine zgH ?_ ?_
 refine zaB (k:=3) (g:=t.a_41) (fd:=t.d_41) (ps:=["box","most_things","most_offers"]) ?_ ?_ ?_ ?_ ?_ ?_
 exact G_41
 exact (hr.mono (by decide))
 exact T.m_41
 exact T.F_41.kp
 exact T.b_41
 refine zaa ?_ ?_
 exact zab 0
 refine zaa ?_ ?_
 exact zai
 refine zaa ?_ ?_
 exact zai
 exact zad
 refine zcE ?_ ?_
 exact rfl
 refine zaD ?_ ?_
 exact zah 1 nd_50
 refine zaD ?_ ?_
 exact zah 2 nd_50
 exact zbL
 refine zag ?_ ?_
 refine zaH 3 ?_ ?_
 exact nd_50
 refine zaI (T:="list") ?_ ?_ ?_ ?_
 exact zjQ
 exact zgP
 exact T.n_list
 refine zaa ?_ ?_
 exact zab 2
 exact zad
 refine zag ?_ ?_
 refine zig 1000 ?_ ?_ ?_
 exact PassesOwn.never
 refine zd1 ?_
 refine zoz ?_ ?_
 refine zaO ?_ ?_ ?_
 exact zfI
 refine zaG (id:="len") ?_ ?_ ?_ ?_
 exact zav
 exact za5
 exact T.n_len
 refine zaa ?_ ?_
 exact zab 3
 exact zad
 exact zai
 refine zl4 ?_
 refine zaO ?_ ?_ ?_
 exact (zcn (zdl hr))
 refine zaB (k:=1) (g:=t.a_39) (fd:=t.d_39) (ps:=["box","many"]) ?_ ?_ ?_ ?_ ?_ ?_
 exact G_39
 exact (hr.mono (by decide))
 exact T.m_39
 exact T.F_39.kp
 exact T.b_39
 refine zaa ?_ ?_
 exact zab 0
 refine zaa ?_ ?_
 exact zai
 exact zad
 exact zai
 refine zag ?_ ?_
 refine zgH ?_ ?_
 refine za1 ?_ ?_
 exact zab 3
 refine zaB (k:=1) (g:=t.a_39) (fd:=t.d_39) (ps:=["box","many"]) ?_ ?_ ?_ ?_ ?_ ?_
 exact G_39
 exact (hr.mono (by decide))
 exact T.m_39
 exact T.F_39.kp
 exact T.b_39
 refine zaa ?_ ?_
 exact zab 0
 refine zaa ?_ ?_
 refine zaG (id:="len") ?_ ?_ ?_ ?_
 exact zav
 exact za5
 exact T.n_len
 refine zaa ?_ ?_
 exact zab 3
 exact zad
 exact zad
 refine zcE ?_ ?_
 exact rfl
 refine zaD ?_ ?_
 exact zah 4 nd_50
 refine zaD ?_ ?_
 exact zah 5 nd_50
 exact zbL
 refine zag ?_ ?_
 refine zaH 6 ?_ ?_
 exact nd_50
 refine zaB (k:=1) (g:=t.a_39) (fd:=t.d_39) (ps:=["box","many"]) ?_ ?_ ?_ ?_ ?_ ?_
 exact G_39
 exact (hr.mono (by decide))
 exact T.m_39
 exact T.F_39.kp
 exact T.b_39
 refine zaa ?_ ?_
 exact zab 0
 refine zaa ?_ ?_
 refine zaG (id:="len") ?_ ?_ ?_ ?_
 exact zav
 exact za5
 exact T.n_len
 refine zaa ?_ ?_
 exact zab 4
 exact zad
 exact zad
 refine zag ?_ ?_
 refine zaH 7 ?_ ?_
 exact nd_50
 refine zcz ?_ ?_ ?_
 exact zaM
 refine zci ?_ ?_ ?_
 exact zab 4
 exact zdd
 refine zdh ?_
 exact zab 6
 refine zci ?_ ?_ ?_
 exact zab 4
 refine zdh ?_
 refine zcz ?_ ?_ ?_
 exact zaM
 exact zab 6
 exact zai
 exact zdd
 refine zag ?_ ?_
 refine zgi ?_ ?_ ?_
 refine zd1 ?_
 refine zik ?_ ?_
 refine zaO ?_ ?_ ?_
 exact (zcn (zdl hr))
 exact zab 7
 refine zbb ?_
 exact zad
 refine zhe ?_
 refine zaO ?_ ?_ ?_
 exact (zcn (zdl hr))
 refine zaB (k:=1) (g:=t.a_39) (fd:=t.d_39) (ps:=["box","many"]) ?_ ?_ ?_ ?_ ?_ ?_
 exact G_39
 exact (hr.mono (by decide))
 exact T.m_39
 exact T.F_39.kp
 exact T.b_39
 refine zaa ?_ ?_
 exact zab 0
 refine zaa ?_ ?_
 exact zai
 exact zad
 exact zai
 refine zaj ?_
 refine zaH 7 ?_ ?_
 exact nd_50
 exact zab 4
 exact zbJ
 refine zaj ?_
 refine zcx ?_
 refine zdf ?_ ?_
 exact zab 3
 refine zbb ?_
 refine zaa ?_ ?_
 exact zab 7
 refine zaa ?_ ?_
 refine zaG (id:="max") ?_ ?_ ?_ ?_
 exact (zgb rfl)
 exact zoa
 exact T.n_max
 refine zaa ?_ ?_
 exact zai
 refine zaa ?_ ?_
 refine zcz ?_ ?_ ?_
 exact zaM
 refine zcz ?_ ?_ ?_
 exact zmk
 exact zab 5
 exact zai
 refine zaB (k:=1) (g:=t.a_39) (fd:=t.d_39) (ps:=["box","many"]) ?_ ?_ ?_ ?_ ?_ ?_
 exact G_39
 exact (hr.mono (by decide))
 exact T.m_39
 exact T.F_39.kp
 exact T.b_39
 refine zaa ?_ ?_
 exact zab 0
 refine zaa ?_ ?_
 exact zai
 exact zad
 exact zad
 exact zad
 refine zaj ?_
 refine zaN ?_
 refine zbb ?_
 refine zaa ?_ ?_
 exact zab 1
 refine zaa ?_ ?_
 refine zaI (T:="tuple") ?_ ?_ ?_ ?_
 exact zay
 exact zaR
 exact T.n_tuple
 refine zaa ?_ ?_
 exact zab 3
 exact zad
 exact zad
theorem nd_44:(["stock","by","offer","one","price","other","cost"]:List Str).Nodup:=by decide +kernel
theorem zq0:(["thing","one"]:List Str).Nodup:=by decide +kernel
theorem sc_44:zal ["stock","by","offer","one","price","other","cost"] ["stock","by","offer"] (zae s_44):=⟨rfl,rfl,rfl,by decide +kernel,rfl,by decide +kernel,by decide +kernel⟩
theorem ok_44 (T:Tx K mg t):zbq P w K mg base CX0 1 t.a_44 t.d_44 ["stock","by","offer"] (zbV K 3 F_44):=by
 refine zbj (k:=0) (G:=G_44) (N:=["stock","by","offer","one","price","other","cost"]) (ps:=["stock","by","offer"]) (st:=s_44) T.F_44 sc_44 fun cdv A outer s H E hr=> ?_
 refine zag ?_ ?_
 refine zgH ?_ ?_
 refine za1 ?_ ?_
 refine za1 ?_ ?_
 exact zab 0
 exact zai
 exact zab 1
 refine zcE ?_ ?_
 exact rfl
 refine zaD ?_ ?_
 exact zah 3 nd_44
 refine zaD ?_ ?_
 exact zah 4 nd_44
 exact zbL
 refine zag ?_ ?_
 refine zgH ?_ ?_
 refine za1 ?_ ?_
 refine za1 ?_ ?_
 exact zab 0
 exact zai
 exact zab 2
 refine zcE ?_ ?_
 exact rfl
 refine zaD ?_ ?_
 exact zah 5 nd_44
 refine zaD ?_ ?_
 exact zah 6 nd_44
 exact zbL
 refine zag ?_ ?_
 refine zgi ?_ ?_ ?_
 refine zd1 ?_
 refine zik ?_ ?_
 refine zaO ?_ ?_ ?_
 exact (zcn (zdl hr))
 exact zab 1
 exact zab 2
 refine zik ?_ ?_
 refine zaO ?_ ?_ ?_
 exact (zeA (zdl hr))
 refine zaQ (N:=["thing","one"]) ?_ ?_ ?_ ?_ ?_ ?_ ?_
 exact rfl
 exact (BOk.of (Xn:=(zae s_44).names) (XN:=["stock","by","offer","one","price","other","cost"]) rfl rfl rfl (by decide +kernel))
 exact (zaA.name (i:=0) rfl)
 refine zbz ?_
 exact zab 5
 intro _ _ _
 exact zah 0 zq0
 intro _ _ _
 refine zbN ?_
 refine zaO ?_ ?_ ?_
 exact (zc0 (zdl hr))
 exact zab 0
 exact zab 1
 intro _ _ _
 exact zab 0
 refine zct ?_
 exact zad
 refine zhe ?_
 refine zaO ?_ ?_ ?_
 exact zom
 exact zab 4
 exact zab 6
 refine zaj ?_
 refine zaN ?_
 exact zhZ
 exact zbJ
 refine zaj ?_
 refine zaN ?_
 refine ztQ ?_ ?_
 refine zmS ?_
 refine zij ?_ ?_
 refine zfo ?_ ?_ ?_
 exact (zcn (zdl hr))
 exact zab 3
 exact zab 5
 refine zf0 ?_
 refine zfo ?_ ?_ ?_
 exact (zcn (zdl hr))
 exact zab 4
 exact zab 6
 refine zf0 ?_
 refine zfo ?_ ?_ ?_
 exact zfI
 exact zab 1
 exact zab 2
theorem zod:(["offer","one","thing"]:List Str).Nodup:=by decide +kernel
theorem sc_45:zal ["stock","thing"] ["stock","thing"] (zae s_45):=⟨rfl,rfl,rfl,by decide +kernel,rfl,by decide +kernel,by decide +kernel⟩
theorem ok_45 (T:Tx K mg t):zbq P w K mg base CX0 1 t.a_45 t.d_45 ["stock","thing"] (zbV K 2 F_45):=by
 refine zbj (k:=0) (G:=G_45) (N:=["stock","thing"]) (ps:=["stock","thing"]) (st:=s_45) T.F_45 sc_45 fun cdv A outer s H E hr=> ?_
 refine zaj ?_
 refine zaN ?_
 refine zaQ (N:=["offer","one","thing"]) ?_ ?_ ?_ ?_ ?_ ?_ ?_
 exact rfl
 exact (BOk.of (Xn:=(zae s_45).names) (XN:=["stock","thing"]) rfl rfl rfl (by decide +kernel))
 exact (zaA.tup (zaT.cons (i:=0) rfl (zaT.cons (i:=1) rfl zaT.nil)))
 refine zoq ?_ ?_
 exact T.n_enumerate
 refine za1 ?_ ?_
 exact zab 0
 exact zai
 intro _ _ _
 refine zcE ?_ ?_
 exact rfl
 refine zaD ?_ ?_
 exact zah 0 zod
 refine zaD ?_ ?_
 exact zah 1 zod
 exact zbL
 intro _ _ _
 refine zbN ?_
 refine zaO ?_ ?_ ?_
 exact (zfv (zdl hr))
 exact zab 2
 refine za1 ?_ ?_
 exact zab 1
 exact zai
 intro _ _ _
 exact zab 0
theorem nd_46:(["stock","by","thing","one","other"]:List Str).Nodup:=by decide +kernel
theorem zrc:(["offer","other"]:List Str).Nodup:=by decide +kernel
theorem sc_46:zal ["stock","by","thing","one","other"] ["stock","by","thing"] (zae s_46):=⟨rfl,rfl,rfl,by decide +kernel,rfl,by decide +kernel,by decide +kernel⟩
theorem ok_46 (T:Tx K mg t):zbq P w K mg base CX0 2 t.a_46 t.d_46 ["stock","by","thing"] (zbV K 3 F_46):=by
 have G_45:=ok_45 (P:=P) (w:=w) (base:=base) T
 refine zbj (k:=1) (G:=G_46) (N:=["stock","by","thing","one","other"]) (ps:=["stock","by","thing"]) (st:=s_46) T.F_46 sc_46 fun cdv A outer s H E hr=> ?_
 refine zag ?_ ?_
 refine zaH 3 ?_ ?_
 exact nd_46
 refine zaB (k:=1) (g:=t.a_45) (fd:=t.d_45) (ps:=["stock","thing"]) ?_ ?_ ?_ ?_ ?_ ?_
 exact G_45
 exact (hr.mono (by decide))
 exact T.m_45
 exact T.F_45.kp
 exact T.b_45
 refine zaa ?_ ?_
 exact zab 0
 refine zaa ?_ ?_
 exact zab 1
 exact zad
 refine zag ?_ ?_
 refine zaH 4 ?_ ?_
 exact nd_46
 refine zaB (k:=1) (g:=t.a_45) (fd:=t.d_45) (ps:=["stock","thing"]) ?_ ?_ ?_ ?_ ?_ ?_
 exact G_45
 exact (hr.mono (by decide))
 exact T.m_45
 exact T.F_45.kp
 exact T.b_45
 refine zaa ?_ ?_
 exact zab 0
 refine zaa ?_ ?_
 exact zab 2
 exact zad
 refine zag ?_ ?_
 refine zgi ?_ ?_ ?_
 refine zd1 ?_
 refine zik ?_ ?_
 refine zaO ?_ ?_ ?_
 exact (zcn (zdl hr))
 exact zab 1
 exact zab 2
 refine zhe ?_
 refine zaO ?_ ?_ ?_
 exact (zeA (zdl hr))
 refine zaQ (N:=["offer","other"]) ?_ ?_ ?_ ?_ ?_ ?_ ?_
 exact rfl
 exact (BOk.of (Xn:=(zae s_46).names) (XN:=["stock","by","thing","one","other"]) rfl rfl rfl (by decide +kernel))
 exact (zaA.name (i:=0) rfl)
 refine zbz ?_
 exact zab 3
 intro _ _ _
 exact zah 0 zrc
 intro _ _ _
 refine zbN ?_
 refine zaO ?_ ?_ ?_
 exact (zc0 (zdl hr))
 exact zab 0
 exact zab 1
 intro _ _ _
 exact zab 0
 refine zct ?_
 exact zad
 refine zaj ?_
 refine zaN ?_
 exact zhZ
 exact zbJ
 refine zaj ?_
 refine zaN ?_
 refine ztQ ?_ ?_
 refine zfo ?_ ?_ ?_
 exact (zeA (zdl hr))
 exact zab 3
 exact zab 4
 refine zf0 ?_
 refine zfo ?_ ?_ ?_
 exact zfI
 exact zab 1
 exact zab 2
theorem nd_47:(["stock","things","many","found","one","some"]:List Str).Nodup:=by decide +kernel
theorem zsa:(["by","things","stock","one"]:List Str).Nodup:=by decide +kernel
theorem sc_47:zal ["stock","things","many","found","one","some"] ["stock","things"] (zae s_47):=⟨rfl,rfl,rfl,by decide +kernel,rfl,by decide +kernel,by decide +kernel⟩
theorem ok_47 (T:Tx K mg t):zbq P w K mg base CX0 3 t.a_47 t.d_47 ["stock","things"] (zbV K 2 F_47):=by
 have G_44:=ok_44 (P:=P) (w:=w) (base:=base) T
 have G_46:=ok_46 (P:=P) (w:=w) (base:=base) T
 refine zbj (k:=2) (G:=G_47) (N:=["stock","things","many","found","one","some"]) (ps:=["stock","things"]) (st:=s_47) T.F_47 sc_47 fun cdv A outer s H E hr=> ?_
 refine zag ?_ ?_
 refine zaH 2 ?_ ?_
 exact nd_47
 refine za1 ?_ ?_
 refine zct ?_
 refine zaa ?_ ?_
 refine zaG (id:="len") ?_ ?_ ?_ ?_
 exact zav
 exact za5
 exact T.n_len
 refine zaa ?_ ?_
 refine za1 ?_ ?_
 exact zab 0
 exact zai
 exact zad
 refine zaa ?_ ?_
 refine za1 ?_ ?_
 exact zab 0
 exact zai
 exact zad
 refine zaI (T:="int") ?_ ?_ ?_ ?_
 exact zeT
 exact zhc
 exact T.n_int
 refine zaa ?_ ?_
 exact zab 1
 exact zad
 refine zag ?_ ?_
 refine zaH 3 ?_ ?_
 exact nd_47
 refine zef ?_
 exact zad
 refine zag ?_ ?_
 refine zf4 ?_ ?_ ?_ ?_ ?_
 exact rfl
 exact PassesOwn.never
 refine zew ?_ ?_
 exact T.n_range
 refine zaa ?_ ?_
 exact zab 2
 exact zad
 exact zah 4 nd_47
 refine zag ?_ ?_
 refine zdE 5 (N:=["by","things","stock","one"]) ?_ ?_ ?_ ?_ ?_ ?_ ?_ ?_
 exact rfl
 exact nd_47
 exact (BOk.of (Xn:=(zae s_47).names) (XN:=["stock","things","many","found","one","some"]) rfl rfl rfl (by decide +kernel))
 exact (zaA.name (i:=0) rfl)
 refine zew ?_ ?_
 exact T.n_range
 refine zaa ?_ ?_
 exact zab 2
 exact zad
 intro _ _ _
 exact zah 0 zsa
 intro _ _ _
 refine zbN ?_
 refine zdj ?_
 refine zqV (addrs:=[t.a_44,t.a_46]) (Fs:=[fun ds=>noX (F_44 ds),fun ds=>noX (F_46 ds)]) ?_ ?_ ?_ ?_ ?_
 refine zr0 ?_ ?_
 exact T.m_44
 refine zr0 ?_ ?_
 exact T.m_46
 exact zqQ
 refine Fns.cons (k:=1) (fd:=t.d_44) (ps:=["stock","by","offer"]) ?_ ?_ ?_ ?_ ?_
 exact (toE G_44)
 exact (hr.mono (by decide))
 exact T.F_44.kp
 exact T.b_44
 refine Fns.cons (k:=2) (fd:=t.d_46) (ps:=["stock","by","thing"]) ?_ ?_ ?_ ?_ ?_
 exact (toE G_46)
 exact (hr.mono (by decide))
 exact T.F_46.kp
 exact T.b_46
 exact Fns.nil
 exact zie
 refine zaI (T:="int") ?_ ?_ ?_ ?_
 exact zeT
 exact zhc
 exact T.n_int
 refine zaa ?_ ?_
 exact zab 1
 exact zad
 refine zaa ?_ ?_
 exact zab 2
 refine zaa ?_ ?_
 exact zab 0
 refine zaa ?_ ?_
 exact zab 3
 exact zad
 intro _ _ _
 exact zab 0
 refine zaj ?_
 refine zgi ?_ ?_ ?_
 refine zaO ?_ ?_ ?_
 exact (zeA (zdl hr))
 exact zab 5
 refine zct ?_
 exact zad
 refine zaj ?_
 refine zcx ?_
 refine zdf ?_ ?_
 exact zab 3
 refine zbb ?_
 refine zaa ?_ ?_
 exact zab 4
 refine zaa ?_ ?_
 refine za1 ?_ ?_
 exact zab 5
 exact zai
 exact zad
 exact zbJ
 refine zaj ?_
 refine zaN ?_
 refine zmO ?_
 exact zab 3
theorem nd_48:(["stock","things","offers","rows","offer","own","price"]:List Str).Nodup:=by decide +kernel
theorem zol:(["place","thing","own"]:List Str).Nodup:=by decide +kernel
theorem sc_48:zal ["stock","things","offers","rows","offer","own","price"] ["stock","things","offers"] (zae s_48):=⟨rfl,rfl,rfl,by decide +kernel,rfl,by decide +kernel,by decide +kernel⟩
theorem ok_48 (T:Tx K mg t):zbq P w K mg base CX0 1 t.a_48 t.d_48 ["stock","things","offers"] (zbV K 3 F_48):=by
 refine zbj (k:=0) (G:=G_48) (N:=["stock","things","offers","rows","offer","own","price"]) (ps:=["stock","things","offers"]) (st:=s_48) T.F_48 sc_48 fun cdv A outer s H E hr=> ?_
 refine zag ?_ ?_
 refine zaH 3 ?_ ?_
 exact nd_48
 refine zef ?_
 exact zad
 refine zag ?_ ?_
 refine zf4 ?_ ?_ ?_ ?_ ?_
 exact rfl
 exact PassesOwn.never
 refine zbz ?_
 exact zab 2
 exact zah 4 nd_48
 refine zag ?_ ?_
 refine zgH ?_ ?_
 refine za1 ?_ ?_
 refine za1 ?_ ?_
 exact zab 0
 exact zai
 exact zab 4
 refine zcE ?_ ?_
 exact rfl
 refine zaD ?_ ?_
 exact zah 5 nd_48
 refine zaD ?_ ?_
 exact zah 6 nd_48
 exact zbL
 refine zaj ?_
 refine zcx ?_
 refine zdf ?_ ?_
 exact zab 3
 refine zbb ?_
 refine zaa ?_ ?_
 refine zaI (T:="tuple") ?_ ?_ ?_ ?_
 exact zay
 exact zaR
 exact T.n_tuple
 refine zaa ?_ ?_
 refine zaQ (N:=["place","thing","own"]) ?_ ?_ ?_ ?_ ?_ ?_ ?_
 exact rfl
 exact (BOk.of (Xn:=(zae s_48).names) (XN:=["stock","things","offers","rows","offer","own","price"]) rfl rfl rfl (by decide +kernel))
 exact (zaA.tup (zaT.cons (i:=0) rfl (zaT.cons (i:=1) rfl zaT.nil)))
 refine zlJ ?_ ?_
 exact T.n_enumerate
 exact zab 1
 intro _ _ _
 refine zcE ?_ ?_
 exact rfl
 refine zaD ?_ ?_
 exact zah 0 zol
 refine zaD ?_ ?_
 exact zah 1 zol
 exact zbL
 intro _ _ _
 refine zbN ?_
 refine zaO ?_ ?_ ?_
 exact (zfv (zdl hr))
 exact zab 1
 exact zab 2
 intro _ _ _
 exact zab 0
 exact zad
 refine zaa ?_ ?_
 exact zab 6
 exact zad
 refine zaj ?_
 refine zaN ?_
 refine zbb ?_
 refine zaa ?_ ?_
 refine zaG (id:="len") ?_ ?_ ?_ ?_
 exact zav
 exact za5
 exact T.n_len
 refine zaa ?_ ?_
 exact zab 1
 exact zad
 refine zaa ?_ ?_
 refine zaI (T:="tuple") ?_ ?_ ?_ ?_
 exact zay
 exact zaR
 exact T.n_tuple
 refine zaa ?_ ?_
 exact zab 3
 exact zad
 exact zad
theorem nd_49:(["stock","names","rows","out","offers","every","gone","things"]:List Str).Nodup:=by decide +kernel
theorem zn5:(["offer","by"]:List Str).Nodup:=by decide +kernel
theorem zrn:(["offer","out"]:List Str).Nodup:=by decide +kernel
theorem zos:(["thing","by"]:List Str).Nodup:=by decide +kernel
theorem zrN:(["thing","gone"]:List Str).Nodup:=by decide +kernel
theorem zr4:(["offer","stock","things"]:List Str).Nodup:=by decide +kernel
theorem zsO:(["thing","things"]:List Str).Nodup:=by decide +kernel
theorem zrD:(["offer","offers"]:List Str).Nodup:=by decide +kernel
theorem zrr:(["offer","names"]:List Str).Nodup:=by decide +kernel
theorem zrA:(["thing","names"]:List Str).Nodup:=by decide +kernel
theorem zsx:(["thing","names"]:List Str).Nodup:=by decide +kernel
theorem zsD:(["offer","names"]:List Str).Nodup:=by decide +kernel
theorem sc_49:zal ["stock","names","rows","out","offers","every","gone","things"] ["stock"] (zae s_49):=⟨rfl,rfl,rfl,by decide +kernel,rfl,by decide +kernel,by decide +kernel⟩
theorem ok_49 (T:Tx K mg t):zbq P w K mg base CX0 4 t.a_49 t.d_49 ["stock"] (zbV K 1 F_49):=by
 have G_47:=ok_47 (P:=P) (w:=w) (base:=base) T
 have G_48:=ok_48 (P:=P) (w:=w) (base:=base) T
 refine zbj (k:=3) (G:=G_49) (N:=["stock","names","rows","out","offers","every","gone","things"]) (ps:=["stock"]) (st:=s_49) T.F_49 sc_49 fun cdv A outer s H E hr=> ?_
 refine zag ?_ ?_
 refine zaH 1 ?_ ?_
 exact nd_49
 refine zbb ?_
 refine zaa ?_ ?_
 refine zdu ?_ ?_ ?_ ?_
 exact rfl
 exact T.n_list
 exact T.n_range
 refine za1 ?_ ?_
 exact zab 0
 exact zai
 refine zaa ?_ ?_
 refine zdu ?_ ?_ ?_ ?_
 exact rfl
 exact T.n_list
 exact T.n_range
 refine zaG (id:="len") ?_ ?_ ?_ ?_
 exact zav
 exact za5
 exact T.n_len
 refine zaa ?_ ?_
 refine za1 ?_ ?_
 exact zab 0
 exact zai
 exact zad
 exact zad
 refine zag ?_ ?_
 refine zaH 2 ?_ ?_
 exact nd_49
 refine zef ?_
 exact zad
 refine zaj ?_
 refine zig 1000 ?_ ?_ ?_
 exact PassesOwn.never
 refine zdj ?_
 exact zhZ
 refine zag ?_ ?_
 refine zaH 3 ?_ ?_
 exact nd_49
 refine zaQ (N:=["offer","by"]) ?_ ?_ ?_ ?_ ?_ ?_ ?_
 exact rfl
 exact (BOk.of (Xn:=(zae s_49).names) (XN:=["stock","names","rows","out","offers","every","gone","things"]) rfl rfl rfl (by decide +kernel))
 exact (zaA.tup (zaT.cons (i:=0) rfl (zaT.cons (i:=1) rfl zaT.nil)))
 refine zbz ?_
 refine zaB (k:=3) (g:=t.a_47) (fd:=t.d_47) (ps:=["stock","things"]) ?_ ?_ ?_ ?_ ?_ ?_
 exact G_47
 exact (hr.mono (by decide))
 exact T.m_47
 exact T.F_47.kp
 exact T.b_47
 refine zaa ?_ ?_
 exact zab 0
 refine zaa ?_ ?_
 exact zhZ
 exact zad
 intro _ _ _
 refine zcE ?_ ?_
 exact rfl
 refine zaD ?_ ?_
 exact zah 0 zn5
 refine zaD ?_ ?_
 exact zah 1 zn5
 exact zbL
 intro _ _ _
 exact zbx
 intro _ _ _
 exact zab 0
 refine zag ?_ ?_
 refine zaH 4 ?_ ?_
 exact nd_49
 refine zaQ (N:=["offer","out"]) ?_ ?_ ?_ ?_ ?_ ?_ ?_
 exact rfl
 exact (BOk.of (Xn:=(zae s_49).names) (XN:=["stock","names","rows","out","offers","every","gone","things"]) rfl rfl rfl (by decide +kernel))
 exact (zaA.name (i:=0) rfl)
 refine zew ?_ ?_
 exact T.n_range
 refine zaa ?_ ?_
 refine zaG (id:="len") ?_ ?_ ?_ ?_
 exact zav
 exact za5
 exact T.n_len
 refine zaa ?_ ?_
 refine za1 ?_ ?_
 exact zab 0
 exact zai
 exact zad
 exact zad
 intro _ _ _
 exact zah 0 zrn
 intro _ _ _
 refine zbN ?_
 refine zaO ?_ ?_ ?_
 exact (zc0 (zdl hr))
 exact zab 0
 exact zab 1
 intro _ _ _
 exact zab 0
 refine zag ?_ ?_
 refine zaH 5 ?_ ?_
 exact nd_49
 refine zdu ?_ ?_ ?_ ?_
 exact rfl
 exact T.n_list
 exact T.n_range
 refine za1 ?_ ?_
 exact zab 0
 exact zai
 refine zag ?_ ?_
 refine zaH 6 ?_ ?_
 exact nd_49
 refine zaQ (N:=["thing","by"]) ?_ ?_ ?_ ?_ ?_ ?_ ?_
 exact rfl
 exact (BOk.of (Xn:=(zae s_49).names) (XN:=["stock","names","rows","out","offers","every","gone","things"]) rfl rfl rfl (by decide +kernel))
 exact (zaA.tup (zaT.cons (i:=0) rfl (zaT.cons (i:=1) rfl zaT.nil)))
 refine zbz ?_
 refine zaB (k:=3) (g:=t.a_47) (fd:=t.d_47) (ps:=["stock","things"]) ?_ ?_ ?_ ?_ ?_ ?_
 exact G_47
 exact (hr.mono (by decide))
 exact T.m_47
 exact T.F_47.kp
 exact T.b_47
 refine zaa ?_ ?_
 refine zaB (k:=1) (g:=t.a_48) (fd:=t.d_48) (ps:=["stock","things","offers"]) ?_ ?_ ?_ ?_ ?_ ?_
 exact G_48
 exact (hr.mono (by decide))
 exact T.m_48
 exact T.F_48.kp
 exact T.b_48
 refine zaa ?_ ?_
 exact zab 0
 refine zaa ?_ ?_
 exact zab 5
 refine zaa ?_ ?_
 exact zab 4
 exact zad
 refine zaa ?_ ?_
 exact zhZ
 exact zad
 intro _ _ _
 refine zcE ?_ ?_
 exact rfl
 refine zaD ?_ ?_
 exact zah 0 zos
 refine zaD ?_ ?_
 exact zah 1 zos
 exact zbL
 intro _ _ _
 exact zbx
 intro _ _ _
 exact zab 0
 refine zag ?_ ?_
 refine zaH 7 ?_ ?_
 exact nd_49
 refine zaQ (N:=["thing","gone"]) ?_ ?_ ?_ ?_ ?_ ?_ ?_
 exact rfl
 exact (BOk.of (Xn:=(zae s_49).names) (XN:=["stock","names","rows","out","offers","every","gone","things"]) rfl rfl rfl (by decide +kernel))
 exact (zaA.name (i:=0) rfl)
 refine zbz ?_
 exact zab 5
 intro _ _ _
 exact zah 0 zrN
 intro _ _ _
 refine zbN ?_
 refine zaO ?_ ?_ ?_
 exact (zc0 (zdl hr))
 exact zab 0
 exact zab 1
 intro _ _ _
 exact zab 0
 refine zag ?_ ?_
 refine zaH 4 ?_ ?_
 exact nd_49
 refine zaQ (N:=["offer","stock","things"]) ?_ ?_ ?_ ?_ ?_ ?_ ?_
 exact rfl
 exact (BOk.of (Xn:=(zae s_49).names) (XN:=["stock","names","rows","out","offers","every","gone","things"]) rfl rfl rfl (by decide +kernel))
 exact (zaA.name (i:=0) rfl)
 refine zbz ?_
 exact zab 4
 intro _ _ _
 exact zah 0 zr4
 intro _ _ _
 refine zbN ?_
 refine zaO ?_ ?_ ?_
 exact (zeA (zdl hr))
 refine zaQ (N:=["thing","things"]) ?_ ?_ ?_ ?_ ?_ ?_ ?_
 exact rfl
 exact (BOk.of (N:=["thing","things"]) (src:=[none,some 2]) rfl rfl rfl (by rfl))
 exact (zaA.name (i:=0) rfl)
 refine zbz ?_
 refine za1 ?_ ?_
 refine za1 ?_ ?_
 refine za1 ?_ ?_
 exact zab 1
 exact zai
 exact zab 0
 exact zai
 intro _ _ _
 exact zah 0 zsO
 intro _ _ _
 refine zbN ?_
 refine zaO ?_ ?_ ?_
 exact (zfv (zdl hr))
 exact zab 0
 exact zab 1
 intro _ _ _
 exact zab 0
 refine zct ?_
 exact zad
 intro _ _ _
 exact zab 0
 refine zag ?_ ?_
 refine zgi ?_ ?_ ?_
 refine zd1 ?_
 refine zoz ?_ ?_
 refine zaO ?_ ?_ ?_
 exact (zcn (zdl hr))
 refine zaG (id:="len") ?_ ?_ ?_ ?_
 exact zav
 exact za5
 exact T.n_len
 refine zaa ?_ ?_
 exact zab 4
 exact zad
 refine zaG (id:="len") ?_ ?_ ?_ ?_
 exact zav
 exact za5
 exact T.n_len
 refine zaa ?_ ?_
 refine za1 ?_ ?_
 exact zab 0
 exact zai
 exact zad
 refine zl4 ?_
 refine zaO ?_ ?_ ?_
 exact (zcn (zdl hr))
 exact zab 6
 refine zct ?_
 exact zad
 refine zaj ?_
 refine zaN ?_
 refine zbb ?_
 refine zaa ?_ ?_
 refine zbb ?_
 refine zaa ?_ ?_
 exact zab 0
 refine zaa ?_ ?_
 refine zaI (T:="tuple") ?_ ?_ ?_ ?_
 exact zay
 exact zaR
 exact T.n_tuple
 refine zaa ?_ ?_
 refine za1 ?_ ?_
 exact zab 1
 exact zai
 exact zad
 refine zaa ?_ ?_
 refine zaI (T:="tuple") ?_ ?_ ?_ ?_
 exact zay
 exact zaR
 exact T.n_tuple
 refine zaa ?_ ?_
 refine za1 ?_ ?_
 exact zab 1
 exact zai
 exact zad
 exact zad
 refine zaa ?_ ?_
 refine zmO ?_
 exact zab 2
 exact zad
 exact zbJ
 refine zag ?_ ?_
 refine zaH 3 ?_ ?_
 exact nd_49
 refine zaQ (N:=["offer","offers"]) ?_ ?_ ?_ ?_ ?_ ?_ ?_
 exact rfl
 exact (BOk.of (Xn:=(zae s_49).names) (XN:=["stock","names","rows","out","offers","every","gone","things"]) rfl rfl rfl (by decide +kernel))
 exact (zaA.name (i:=0) rfl)
 refine zew ?_ ?_
 exact T.n_range
 refine zaa ?_ ?_
 refine zaG (id:="len") ?_ ?_ ?_ ?_
 exact zav
 exact za5
 exact T.n_len
 refine zaa ?_ ?_
 refine za1 ?_ ?_
 exact zab 0
 exact zai
 exact zad
 exact zad
 intro _ _ _
 exact zah 0 zrD
 intro _ _ _
 refine zbN ?_
 refine zaO ?_ ?_ ?_
 exact (zc0 (zdl hr))
 exact zab 0
 exact zab 1
 intro _ _ _
 exact zab 0
 refine zag ?_ ?_
 refine zcx ?_
 refine zdf ?_ ?_
 exact zab 2
 refine zbb ?_
 refine zaa ?_ ?_
 refine zaI (T:="tuple") ?_ ?_ ?_ ?_
 exact zay
 exact zaR
 exact T.n_tuple
 refine zaa ?_ ?_
 refine zaQ (N:=["offer","names"]) ?_ ?_ ?_ ?_ ?_ ?_ ?_
 exact rfl
 exact (BOk.of (Xn:=(zae s_49).names) (XN:=["stock","names","rows","out","offers","every","gone","things"]) rfl rfl rfl (by decide +kernel))
 exact (zaA.name (i:=0) rfl)
 refine zbz ?_
 exact zab 3
 intro _ _ _
 exact zah 0 zrr
 intro _ _ _
 exact zbx
 intro _ _ _
 refine za1 ?_ ?_
 refine za1 ?_ ?_
 exact zab 1
 exact zai
 exact zab 0
 exact zad
 refine zaa ?_ ?_
 refine zaI (T:="tuple") ?_ ?_ ?_ ?_
 exact zay
 exact zaR
 exact T.n_tuple
 refine zaa ?_ ?_
 refine zaQ (N:=["thing","names"]) ?_ ?_ ?_ ?_ ?_ ?_ ?_
 exact rfl
 exact (BOk.of (Xn:=(zae s_49).names) (XN:=["stock","names","rows","out","offers","every","gone","things"]) rfl rfl rfl (by decide +kernel))
 exact (zaA.name (i:=0) rfl)
 refine zbz ?_
 exact zab 6
 intro _ _ _
 exact zah 0 zrA
 intro _ _ _
 exact zbx
 intro _ _ _
 refine za1 ?_ ?_
 refine za1 ?_ ?_
 exact zab 1
 exact zai
 exact zab 0
 exact zad
 exact zad
 refine zag ?_ ?_
 refine zaH 0 ?_ ?_
 exact nd_49
 refine zaB (k:=1) (g:=t.a_48) (fd:=t.d_48) (ps:=["stock","things","offers"]) ?_ ?_ ?_ ?_ ?_ ?_
 exact G_48
 exact (hr.mono (by decide))
 exact T.m_48
 exact T.F_48.kp
 exact T.b_48
 refine zaa ?_ ?_
 exact zab 0
 refine zaa ?_ ?_
 exact zab 7
 refine zaa ?_ ?_
 exact zab 4
 exact zad
 refine zaj ?_
 refine zaH 1 ?_ ?_
 exact nd_49
 refine zbb ?_
 refine zaa ?_ ?_
 refine zaQ (N:=["thing","names"]) ?_ ?_ ?_ ?_ ?_ ?_ ?_
 exact rfl
 exact (BOk.of (Xn:=(zae s_49).names) (XN:=["stock","names","rows","out","offers","every","gone","things"]) rfl rfl rfl (by decide +kernel))
 exact (zaA.name (i:=0) rfl)
 refine zbz ?_
 exact zab 7
 intro _ _ _
 exact zah 0 zsx
 intro _ _ _
 exact zbx
 intro _ _ _
 refine za1 ?_ ?_
 refine za1 ?_ ?_
 exact zab 1
 exact zai
 exact zab 0
 refine zaa ?_ ?_
 refine zaQ (N:=["offer","names"]) ?_ ?_ ?_ ?_ ?_ ?_ ?_
 exact rfl
 exact (BOk.of (Xn:=(zae s_49).names) (XN:=["stock","names","rows","out","offers","every","gone","things"]) rfl rfl rfl (by decide +kernel))
 exact (zaA.name (i:=0) rfl)
 refine zbz ?_
 exact zab 4
 intro _ _ _
 exact zah 0 zsD
 intro _ _ _
 exact zbx
 intro _ _ _
 refine za1 ?_ ?_
 refine za1 ?_ ?_
 exact zab 1
 exact zai
 exact zab 0
 exact zad
theorem nd_43:(["box","some"]:List Str).Nodup:=by decide +kernel
theorem sc_43:zal ["box","some"] ["box"] (zae s_43):=⟨rfl,rfl,rfl,by decide +kernel,rfl,by decide +kernel,by decide +kernel⟩
theorem ok_43 (T:Tx K mg t):zbq P w K mg base CX0 2 t.a_43 t.d_43 ["box"] (zbV K 1 F_43):=by
 have G_39:=ok_39 (P:=P) (w:=w) (base:=base) T
 refine zbj (k:=1) (G:=G_43) (N:=["box","some"]) (ps:=["box"]) (st:=s_43) T.F_43 sc_43 fun cdv A outer s H E hr=> ?_
 refine zag ?_ ?_
 refine zaH 1 ?_ ?_
 exact nd_43
 refine zct ?_
 refine zaa ?_ ?_
 exact zqp
 refine zaa ?_ ?_
 exact zhZ
 refine zaa ?_ ?_
 exact zhZ
 refine zaa ?_ ?_
 refine zj4 ?_
 exact zai
 refine zaa ?_ ?_
 exact zai
 refine zaa ?_ ?_
 exact zai
 refine zaa ?_ ?_
 exact zai
 refine zaa ?_ ?_
 exact zek
 refine zaa ?_ ?_
 exact zek
 refine zaa ?_ ?_
 refine zbb ?_
 exact zad
 refine zaa ?_ ?_
 refine zbb ?_
 refine zaa ?_ ?_
 exact zai
 exact zad
 refine zaa ?_ ?_
 refine zbb ?_
 refine zaa ?_ ?_
 exact zai
 refine zaa ?_ ?_
 exact zai
 exact zad
 refine zaa ?_ ?_
 refine zbb ?_
 refine zaa ?_ ?_
 exact zai
 refine zaa ?_ ?_
 exact zai
 exact zad
 refine zaa ?_ ?_
 refine zbb ?_
 refine zaa ?_ ?_
 exact zai
 refine zaa ?_ ?_
 exact zai
 exact zad
 refine zaa ?_ ?_
 refine zbb ?_
 refine zaa ?_ ?_
 exact zhZ
 exact zad
 refine zaa ?_ ?_
 refine zct ?_
 refine zaa ?_ ?_
 exact zai
 exact zad
 refine zaa ?_ ?_
 exact zpR
 refine zaa ?_ ?_
 refine zbb ?_
 refine zaa ?_ ?_
 refine zbb ?_
 refine zaa ?_ ?_
 exact zai
 exact zad
 exact zad
 exact zad
 refine zag ?_ ?_
 refine zaH 1 ?_ ?_
 exact nd_43
 refine zcz ?_ ?_ ?_
 exact zaM
 exact zab 1
 refine zct ?_
 refine zaa ?_ ?_
 refine zbb ?_
 refine zaa ?_ ?_
 exact zqp
 exact zad
 refine zaa ?_ ?_
 refine zcz ?_ ?_ ?_
 exact zmn
 exact zai
 exact zai
 refine zaa ?_ ?_
 refine zbb ?_
 refine zaa ?_ ?_
 exact zai
 exact zad
 refine zaa ?_ ?_
 refine zbb ?_
 refine zaa ?_ ?_
 refine zj4 ?_
 exact zai
 exact zad
 refine zaa ?_ ?_
 refine zbb ?_
 refine zaa ?_ ?_
 exact zai
 refine zaa ?_ ?_
 exact zek
 exact zad
 refine zaa ?_ ?_
 refine zct ?_
 refine zaa ?_ ?_
 exact zai
 refine zaa ?_ ?_
 exact zai
 exact zad
 refine zaa ?_ ?_
 refine zbb ?_
 refine zaa ?_ ?_
 exact zai
 refine zaa ?_ ?_
 exact zai
 refine zaa ?_ ?_
 exact zai
 exact zad
 exact zad
 refine zaj ?_
 refine zaN ?_
 refine za1 ?_ ?_
 exact zab 1
 refine zaB (k:=1) (g:=t.a_39) (fd:=t.d_39) (ps:=["box","many"]) ?_ ?_ ?_ ?_ ?_ ?_
 exact G_39
 exact (hr.mono (by decide))
 exact T.m_39
 exact T.F_39.kp
 exact T.b_39
 refine zaa ?_ ?_
 exact zab 0
 refine zaa ?_ ?_
 refine zaG (id:="len") ?_ ?_ ?_ ?_
 exact zav
 exact za5
 exact T.n_len
 refine zaa ?_ ?_
 exact zab 1
 exact zad
 exact zad
theorem nd_53:(["box","stock","lot","at","odd","some"]:List Str).Nodup:=by decide +kernel
theorem sc_53:zal ["box","stock","lot","at","odd","some"] ["box","stock","lot"] (zae s_53):=⟨rfl,rfl,rfl,by decide +kernel,rfl,by decide +kernel,by decide +kernel⟩
theorem ok_53 (T:Tx K mg t):zbq P w K mg base CX0 3 t.a_53 t.d_53 ["box","stock","lot"] (zbV K 3 F_53):=by
 have G_39:=ok_39 (P:=P) (w:=w) (base:=base) T
 have G_43:=ok_43 (P:=P) (w:=w) (base:=base) T
 refine zbj (k:=2) (G:=G_53) (N:=["box","stock","lot","at","odd","some"]) (ps:=["box","stock","lot"]) (st:=s_53) T.F_53 sc_53 fun cdv A outer s H E hr=> ?_
 refine zag ?_ ?_
 refine zaH 3 ?_ ?_
 exact nd_53
 refine zaB (k:=1) (g:=t.a_39) (fd:=t.d_39) (ps:=["box","many"]) ?_ ?_ ?_ ?_ ?_ ?_
 exact G_39
 exact (hr.mono (by decide))
 exact T.m_39
 exact T.F_39.kp
 exact T.b_39
 refine zaa ?_ ?_
 exact zab 0
 refine zaa ?_ ?_
 refine zcz ?_ ?_ ?_
 exact zaM
 refine zaG (id:="len") ?_ ?_ ?_ ?_
 exact zav
 exact za5
 exact T.n_len
 refine zaa ?_ ?_
 exact zab 2
 exact zad
 exact zai
 exact zad
 refine zag ?_ ?_
 refine zaH 4 ?_ ?_
 exact nd_53
 refine zaB (k:=2) (g:=t.a_43) (fd:=t.d_43) (ps:=["box"]) ?_ ?_ ?_ ?_ ?_ ?_
 exact G_43
 exact (hr.mono (by decide))
 exact T.m_43
 exact T.F_43.kp
 exact T.b_43
 refine zaa ?_ ?_
 exact zab 0
 exact zad
 refine zag ?_ ?_
 refine zaH 5 ?_ ?_
 exact nd_53
 refine zct ?_
 refine zaa ?_ ?_
 refine zcz ?_ ?_ ?_
 exact zaM
 refine zci ?_ ?_ ?_
 exact zab 2
 exact zdd
 refine zdh ?_
 exact zab 3
 refine zci ?_ ?_ ?_
 exact zab 2
 refine zdh ?_
 refine zcz ?_ ?_ ?_
 exact zaM
 exact zab 3
 exact zai
 exact zdd
 refine zaa ?_ ?_
 refine zcz ?_ ?_ ?_
 exact zaM
 exact zab 2
 refine zbb ?_
 refine zaa ?_ ?_
 refine zaG (id:="len") ?_ ?_ ?_ ?_
 exact zav
 exact za5
 exact T.n_len
 refine zaa ?_ ?_
 refine za1 ?_ ?_
 exact zab 1
 exact zai
 exact zad
 exact zad
 refine zaa ?_ ?_
 refine ztq ?_
 exact zab 2
 refine zaa ?_ ?_
 refine zaI (T:="list") ?_ ?_ ?_ ?_
 exact zeR
 exact zgP
 exact T.n_list
 refine zaa ?_ ?_
 exact zab 2
 exact zad
 refine zaa ?_ ?_
 refine zcz ?_ ?_ ?_
 exact zaM
 exact zab 2
 refine zci ?_ ?_ ?_
 exact zab 2
 refine zdh ?_
 refine zj4 ?_
 exact zai
 exact zdd
 refine zaa ?_ ?_
 exact zab 4
 refine zaa ?_ ?_
 refine zcz ?_ ?_ ?_
 exact zaM
 exact zab 2
 refine zbb ?_
 refine zaa ?_ ?_
 exact zab 4
 exact zad
 exact zad
 refine zag ?_ ?_
 refine zaH 5 ?_ ?_
 exact nd_53
 refine zcz ?_ ?_ ?_
 exact zaM
 exact zab 5
 refine zct ?_
 refine zaa ?_ ?_
 refine zcz ?_ ?_ ?_
 exact zaM
 refine zcz ?_ ?_ ?_
 exact zaM
 refine zci ?_ ?_ ?_
 exact zab 2
 exact zdd
 refine zdh ?_
 exact zab 3
 refine zbb ?_
 refine zaa ?_ ?_
 exact zab 4
 exact zad
 refine zci ?_ ?_ ?_
 exact zab 2
 refine zdh ?_
 exact zab 3
 exact zdd
 refine zaa ?_ ?_
 refine ze8 ?_ ?_ ?_ ?_
 exact rfl
 exact T.n_tuple
 exact T.n_range
 refine zaG (id:="len") ?_ ?_ ?_ ?_
 exact zav
 exact za5
 exact T.n_len
 refine zaa ?_ ?_
 refine za1 ?_ ?_
 exact zab 1
 exact zai
 exact zad
 refine zaa ?_ ?_
 exact zab 2
 refine zaa ?_ ?_
 exact zqp
 refine zaa ?_ ?_
 refine zbb ?_
 refine zaa ?_ ?_
 exact zab 2
 exact zad
 exact zad
 refine zaj ?_
 refine zaN ?_
 refine za1 ?_ ?_
 exact zab 5
 refine zaB (k:=1) (g:=t.a_39) (fd:=t.d_39) (ps:=["box","many"]) ?_ ?_ ?_ ?_ ?_ ?_
 exact G_39
 exact (hr.mono (by decide))
 exact T.m_39
 exact T.F_39.kp
 exact T.b_39
 refine zaa ?_ ?_
 exact zab 0
 refine zaa ?_ ?_
 refine zaG (id:="len") ?_ ?_ ?_ ?_
 exact zav
 exact za5
 exact T.n_len
 refine zaa ?_ ?_
 exact zab 5
 exact zad
 exact zad
theorem sc_42:zal ["found"] ["found"] (zae s_42):=⟨rfl,rfl,rfl,by decide +kernel,rfl,by decide +kernel,by decide +kernel⟩
theorem ok_42 (T:Tx K mg t):zbq P w K mg base CX0 1 t.a_42 t.d_42 ["found"] (zbV K 1 F_42):=by
 refine zbj (k:=0) (G:=G_42) (N:=["found"]) (ps:=["found"]) (st:=s_42) T.F_42 sc_42 fun cdv A outer s H E hr=> ?_
 refine zaj ?_
 refine zaN ?_
 refine zij ?_ ?_
 refine zjK ?_ ?_ ?_ ?_ ?_
 exact zmj
 exact zhc
 exact T.n_isinstance
 exact T.n_int
 exact zab 0
 refine zf0 ?_
 refine zmS ?_
 refine zjK ?_ ?_ ?_ ?_ ?_
 exact zjj
 exact zk8
 exact T.n_isinstance
 exact T.n_bool
 exact zab 0
theorem zqU:(["one"]:List Str).Nodup:=by decide +kernel
theorem zst:(["one","stock"]:List Str).Nodup:=by decide +kernel
theorem sc_51:zal ["stock","thing"] ["stock","thing"] (zae s_51):=⟨rfl,rfl,rfl,by decide +kernel,rfl,by decide +kernel,by decide +kernel⟩
theorem ok_51 (T:Tx K mg t):zbq P w K mg base CX0 2 t.a_51 t.d_51 ["stock","thing"] (zbV K 2 F_51):=by
 have G_42:=ok_42 (P:=P) (w:=w) (base:=base) T
 refine zbj (k:=1) (G:=G_51) (N:=["stock","thing"]) (ps:=["stock","thing"]) (st:=s_51) T.F_51 sc_51 fun cdv A outer s H E hr=> ?_
 refine zag ?_ ?_
 refine zgi ?_ ?_ ?_
 refine zd1 ?_
 refine zik ?_ ?_
 refine ze0 ?_
 refine zdj ?_
 refine zjK ?_ ?_ ?_ ?_ ?_
 exact zhi
 exact zaR
 exact T.n_isinstance
 exact T.n_tuple
 exact zab 1
 refine zhe ?_
 refine ze0 ?_
 refine zdj ?_
 refine zaG (id:="all") ?_ ?_ ?_ ?_
 exact (zfr rfl)
 exact zkH
 exact T.n_all
 refine zaa ?_ ?_
 refine zaQ (N:=["one"]) ?_ ?_ ?_ ?_ ?_ ?_ ?_
 exact rfl
 exact (BOk.of (Xn:=(zae s_51).names) (XN:=["stock","thing"]) rfl rfl rfl (by decide +kernel))
 exact (zaA.name (i:=0) rfl)
 refine zbz ?_
 exact zab 1
 intro _ _ _
 exact zah 0 zqU
 intro _ _ _
 exact zbx
 intro _ _ _
 refine zaB (k:=1) (g:=t.a_42) (fd:=t.d_42) (ps:=["found"]) ?_ ?_ ?_ ?_ ?_ ?_
 exact G_42
 exact (hr.mono (by decide))
 exact T.m_42
 exact T.F_42.kp
 exact T.b_42
 refine zaa ?_ ?_
 exact zab 0
 exact zad
 exact zad
 refine zaj ?_
 refine zaN ?_
 exact zhZ
 exact zbJ
 refine zaj ?_
 refine zaN ?_
 refine zij ?_ ?_
 refine zfo ?_ ?_ ?_
 exact (zcn (zdl hr))
 refine zaI (T:="list") ?_ ?_ ?_ ?_
 exact zeR
 exact zgP
 exact T.n_list
 refine zaa ?_ ?_
 exact zab 1
 exact zad
 refine zfF ?_ ?_ ?_ ?_
 exact rfl
 exact T.n_sorted
 exact T.n_set
 exact zab 1
 refine zf0 ?_
 refine zaG (id:="all") ?_ ?_ ?_ ?_
 exact (zfr rfl)
 exact zkH
 exact T.n_all
 refine zaa ?_ ?_
 refine zaQ (N:=["one","stock"]) ?_ ?_ ?_ ?_ ?_ ?_ ?_
 exact rfl
 exact (BOk.of (Xn:=(zae s_51).names) (XN:=["stock","thing"]) rfl rfl rfl (by decide +kernel))
 exact (zaA.name (i:=0) rfl)
 refine zbz ?_
 exact zab 1
 intro _ _ _
 exact zah 0 zst
 intro _ _ _
 exact zbx
 intro _ _ _
 refine zql ?_ ?_ ?_ ?_ ?_
 exact zlM
 exact zfI
 exact zai
 exact zab 0
 refine zaG (id:="len") ?_ ?_ ?_ ?_
 exact zav
 exact za5
 exact T.n_len
 refine zaa ?_ ?_
 refine za1 ?_ ?_
 exact zab 1
 exact zai
 exact zad
 exact zad
theorem nd_52:(["stock","thing","had","offer"]:List Str).Nodup:=by decide +kernel
theorem sc_52:zal ["stock","thing","had","offer"] ["stock","thing"] (zae s_52):=⟨rfl,rfl,rfl,by decide +kernel,rfl,by decide +kernel,by decide +kernel⟩
theorem ok_52 (T:Tx K mg t):zbq P w K mg base CX0 3 t.a_52 t.d_52 ["stock","thing"] (zbV K 2 F_52):=by
 have G_51:=ok_51 (P:=P) (w:=w) (base:=base) T
 refine zbj (k:=2) (G:=G_52) (N:=["stock","thing","had","offer"]) (ps:=["stock","thing"]) (st:=s_52) T.F_52 sc_52 fun cdv A outer s H E hr=> ?_
 refine zag ?_ ?_
 refine zgi ?_ ?_ ?_
 refine ze0 ?_
 refine zdj ?_
 refine zaB (k:=2) (g:=t.a_51) (fd:=t.d_51) (ps:=["stock","thing"]) ?_ ?_ ?_ ?_ ?_ ?_
 exact G_51
 exact (hr.mono (by decide))
 exact T.m_51
 exact T.F_51.kp
 exact T.b_51
 refine zaa ?_ ?_
 exact zab 0
 refine zaa ?_ ?_
 exact zab 1
 exact zad
 refine zaj ?_
 refine zaN ?_
 exact zhZ
 exact zbJ
 refine zag ?_ ?_
 refine zaH 2 ?_ ?_
 exact nd_52
 refine zct ?_
 exact zad
 refine zag ?_ ?_
 refine zf4 ?_ ?_ ?_ ?_ ?_
 exact rfl
 exact PassesOwn.never
 refine zbz ?_
 exact zab 1
 exact zah 3 nd_52
 refine zaj ?_
 refine zaH 2 ?_ ?_
 exact nd_52
 refine zcz ?_ ?_ ?_
 exact zaM
 exact zab 2
 refine zaI (T:="list") ?_ ?_ ?_ ?_
 exact zeR
 exact zgP
 exact T.n_list
 refine zaa ?_ ?_
 refine za1 ?_ ?_
 refine za1 ?_ ?_
 refine za1 ?_ ?_
 exact zab 0
 exact zai
 exact zab 3
 exact zai
 exact zad
 refine zaj ?_
 refine zaN ?_
 refine zfo ?_ ?_ ?_
 exact (zcn (zdl hr))
 refine zfF ?_ ?_ ?_ ?_
 exact rfl
 exact T.n_sorted
 exact T.n_set
 exact zab 2
 refine zdu ?_ ?_ ?_ ?_
 exact rfl
 exact T.n_list
 exact T.n_range
 refine za1 ?_ ?_
 exact zab 0
 exact zai
theorem nd_54:(["e","kinds"]:List Str).Nodup:=by decide +kernel
theorem sc_54:zal ["e","kinds"] ["e"] (zae s_54):=⟨rfl,rfl,rfl,by decide +kernel,rfl,by decide +kernel,by decide +kernel⟩
theorem ok_54 (T:Tx K mg t):FnH P w K mg base  1 t.a_54 t.d_54 ["e"] (zbV K 1 F_54):=by
 refine zrm (k:=0) (G:=G_54) (N:=["e","kinds"]) (ps:=["e"]) (st:=s_54) T.F_54 sc_54 fun cdv A outer s H hr=> ?_
 refine zag ?_ ?_
 refine zaH 1 ?_ ?_
 exact nd_54
 refine zct ?_
 refine zaa ?_ ?_
 refine zif (CE:=t.a_0) (CC:=t.a_5) ?_ ?_ ?_ ?_ ?_ ?_
 exact T.x_exc
 exact (by decide +kernel)
 exact T.k_5
 exact T.n_isinstance
 exact T.g_5
 exact zab 0
 refine zaa ?_ ?_
 refine zif (CE:=t.a_0) (CC:=t.a_4) ?_ ?_ ?_ ?_ ?_ ?_
 exact T.x_exc
 exact (by decide +kernel)
 exact T.k_4
 exact T.n_isinstance
 exact T.g_4
 exact zab 0
 refine zaa ?_ ?_
 refine zif (CE:=t.a_0) (CC:=t.a_6) ?_ ?_ ?_ ?_ ?_ ?_
 exact T.x_exc
 exact (by decide +kernel)
 exact T.k_6
 exact T.n_isinstance
 exact T.g_6
 exact zab 0
 refine zaa ?_ ?_
 refine zif (CE:=t.a_0) (CC:=t.a_2) ?_ ?_ ?_ ?_ ?_ ?_
 exact T.x_exc
 exact (by decide +kernel)
 exact T.k_2
 exact T.n_isinstance
 exact T.g_2
 exact zab 0
 exact zad
 refine zag ?_ ?_
 refine zaH 1 ?_ ?_
 exact nd_54
 refine zcz ?_ ?_ ?_
 exact zaM
 exact zab 1
 refine zct ?_
 refine zaa ?_ ?_
 refine zif (CE:=t.a_0) (CC:=t.a_3) ?_ ?_ ?_ ?_ ?_ ?_
 exact T.x_exc
 exact (by decide +kernel)
 exact T.k_3
 exact T.n_isinstance
 exact T.g_3
 exact zab 0
 refine zaa ?_ ?_
 refine zif (CE:=t.a_0) (CC:=t.a_1) ?_ ?_ ?_ ?_ ?_ ?_
 exact T.x_exc
 exact (by decide +kernel)
 exact T.k_1
 exact T.n_isinstance
 exact T.g_1
 exact zab 0
 refine zaa ?_ ?_
 refine zif (CE:=t.a_0) (CC:=t.a_7) ?_ ?_ ?_ ?_ ?_ ?_
 exact T.x_exc
 exact (by decide +kernel)
 exact T.k_7
 exact T.n_isinstance
 exact T.g_7
 exact zab 0
 refine zaa ?_ ?_
 exact zhZ
 exact zad
 refine zaj ?_
 refine zaN ?_
 refine za1 ?_ ?_
 refine zct ?_
 refine zaa ?_ ?_
 exact zek
 refine zaa ?_ ?_
 exact zek
 refine zaa ?_ ?_
 exact zek
 refine zaa ?_ ?_
 exact zek
 refine zaa ?_ ?_
 exact zek
 refine zaa ?_ ?_
 exact zek
 refine zaa ?_ ?_
 exact zek
 refine zaa ?_ ?_
 exact zek
 exact zad
 refine zpl ?_
 exact zab 1
theorem sc_8:zal ["thing"] ["thing"] (zae s_8):=⟨rfl,rfl,rfl,by decide +kernel,rfl,by decide +kernel,by decide +kernel⟩
theorem ok_8 (T:Tx K mg t):zbq P w K mg base CX0 1 t.a_8 t.d_8 ["thing"] (zbV K 1 F_8):=by
 refine zbj (k:=0) (G:=G_8) (N:=["thing"]) (ps:=["thing"]) (st:=s_8) T.F_8 sc_8 fun cdv A outer s H E hr=> ?_
 refine zaj ?_
 refine zaN ?_
 refine zij ?_ ?_
 refine zjK ?_ ?_ ?_ ?_ ?_
 exact zmj
 exact zhc
 exact T.n_isinstance
 exact T.n_int
 exact zab 0
 refine zf0 ?_
 refine zmS ?_
 refine zjK ?_ ?_ ?_ ?_ ?_
 exact zjj
 exact zk8
 exact T.n_isinstance
 exact T.n_bool
 exact zab 0
theorem nd_9:(["thing","bound","least","number"]:List Str).Nodup:=by decide +kernel
theorem sc_9:zal ["thing","bound","least","number"] ["thing","bound"] (zae s_9):=⟨rfl,rfl,rfl,by decide +kernel,rfl,by decide +kernel,by decide +kernel⟩
theorem ok_9 (T:Tx K mg t):zbq P w K mg base CX0 2 t.a_9 t.d_9 ["thing","bound"] (zbV K 2 F_9):=by
 have G_8:=ok_8 (P:=P) (w:=w) (base:=base) T
 refine zbj (k:=1) (G:=G_9) (N:=["thing","bound","least","number"]) (ps:=["thing","bound"]) (st:=s_9) T.F_9 sc_9 fun cdv A outer s H E hr=> ?_
 refine zag ?_ ?_
 refine zgi ?_ ?_ ?_
 refine ze0 ?_
 refine zdj ?_
 refine zjK ?_ ?_ ?_ ?_ ?_
 exact zhi
 exact zaR
 exact T.n_isinstance
 exact T.n_tuple
 exact zab 0
 refine zaj ?_
 refine zaN ?_
 exact zhZ
 exact zbJ
 refine zag ?_ ?_
 refine zaH 2 ?_ ?_
 exact nd_9
 exact zai
 refine zag ?_ ?_
 refine zf4 ?_ ?_ ?_ ?_ ?_
 exact rfl
 exact PassesOwn.never
 refine zbz ?_
 exact zab 0
 exact zah 3 nd_9
 refine zag ?_ ?_
 refine zgi ?_ ?_ ?_
 refine zd1 ?_
 refine zik ?_ ?_
 refine ze0 ?_
 refine zdj ?_
 refine zaB (k:=1) (g:=t.a_8) (fd:=t.d_8) (ps:=["thing"]) ?_ ?_ ?_ ?_ ?_ ?_
 exact G_8
 exact (hr.mono (by decide))
 exact T.m_8
 exact T.F_8.kp
 exact T.b_8
 refine zaa ?_ ?_
 exact zab 3
 exact zad
 refine zik ?_ ?_
 refine zaO ?_ ?_ ?_
 exact zfI
 exact zab 3
 exact zab 2
 refine zhe ?_
 refine zaO ?_ ?_ ?_
 exact zsg
 exact zab 3
 exact zab 1
 refine zaj ?_
 refine zaN ?_
 exact zhZ
 exact zbJ
 refine zaj ?_
 refine zaH 2 ?_ ?_
 exact nd_9
 refine zcz ?_ ?_ ?_
 exact zaM
 exact zab 3
 exact zai
 refine zaj ?_
 refine zaN ?_
 exact zhZ
theorem sc_10:zal ["stock","thing"] ["stock","thing"] (zae s_10):=⟨rfl,rfl,rfl,by decide +kernel,rfl,by decide +kernel,by decide +kernel⟩
theorem ok_10 (T:Tx K mg t):zbq P w K mg base CX0 3 t.a_10 t.d_10 ["stock","thing"] (zbV K 2 F_10):=by
 have G_9:=ok_9 (P:=P) (w:=w) (base:=base) T
 refine zbj (k:=2) (G:=G_10) (N:=["stock","thing"]) (ps:=["stock","thing"]) (st:=s_10) T.F_10 sc_10 fun cdv A outer s H E hr=> ?_
 refine zaj ?_
 refine zaN ?_
 refine zaB (k:=2) (g:=t.a_9) (fd:=t.d_9) (ps:=["thing","bound"]) ?_ ?_ ?_ ?_ ?_ ?_
 exact G_9
 exact (hr.mono (by decide))
 exact T.m_9
 exact T.F_9.kp
 exact T.b_9
 refine zaa ?_ ?_
 exact zab 1
 refine zaa ?_ ?_
 refine zaG (id:="len") ?_ ?_ ?_ ?_
 exact zav
 exact za5
 exact T.n_len
 refine zaa ?_ ?_
 refine za1 ?_ ?_
 exact zab 0
 exact zai
 exact zad
 exact zad
theorem sc_13:zal ["stock","lot"] ["stock","lot"] (zae s_13):=⟨rfl,rfl,rfl,by decide +kernel,rfl,by decide +kernel,by decide +kernel⟩
theorem ok_13 (T:Tx K mg t):zbq P w K mg base (CXE P w) 4 t.a_13 t.d_13 ["stock","lot"] (spE K 2 F_13):=by
 have G_10:=ok_10 (P:=P) (w:=w) (base:=base) T
 refine zdw (k:=3) (G:=G_13) (N:=["stock","lot"]) (ps:=["stock","lot"]) (st:=s_13) T.F_13 sc_13 fun cdv A outer s H E hr=> ?_
 refine zaj ?_
 refine zgi ?_ ?_ ?_
 refine ze0 ?_
 refine zdj ?_
 refine zcb (k:=3) (g:=t.a_10) (fd:=t.d_10) (ps:=["stock","thing"]) ?_ ?_ ?_ ?_ ?_ ?_
 exact G_10
 exact (hr.mono (by decide))
 exact T.m_10
 exact T.F_10.kp
 exact T.b_10
 refine zaa ?_ ?_
 exact zab 0
 refine zaa ?_ ?_
 exact zab 1
 exact zad
 refine zaj ?_
 exact ziA (c:="NoCover") rfl zgV T.x_exc (by decide +kernel) T.k_4
 exact zbJ
theorem nd_35:(["count","ruled","out"]:List Str).Nodup:=by decide +kernel
theorem zry:(["pair"]:List Str).Nodup:=by decide +kernel
theorem zsi:(["number","out"]:List Str).Nodup:=by decide +kernel
theorem sc_35:zal ["count","ruled","out"] ["count","ruled"] (zae s_35):=⟨rfl,rfl,rfl,by decide +kernel,rfl,by decide +kernel,by decide +kernel⟩
theorem ok_35 (T:Tx K mg t):zbq P w K mg base CX0 1 t.a_35 t.d_35 ["count","ruled"] (zbV K 2 F_35):=by
 refine zbj (k:=0) (G:=G_35) (N:=["count","ruled","out"]) (ps:=["count","ruled"]) (st:=s_35) T.F_35 sc_35 fun cdv A outer s H E hr=> ?_
 refine zag ?_ ?_
 refine zaH 2 ?_ ?_
 exact nd_35
 refine zaQ (N:=["pair"]) ?_ ?_ ?_ ?_ ?_ ?_ ?_
 exact rfl
 exact (BOk.of (Xn:=(zae s_35).names) (XN:=["count","ruled","out"]) rfl rfl rfl (by decide +kernel))
 exact (zaA.name (i:=0) rfl)
 refine zbz ?_
 exact zab 1
 intro _ _ _
 exact zah 0 zry
 intro _ _ _
 exact zbx
 intro _ _ _
 refine za1 ?_ ?_
 exact zab 0
 exact zai
 refine zaj ?_
 refine zaN ?_
 refine zaQ (N:=["number","out"]) ?_ ?_ ?_ ?_ ?_ ?_ ?_
 exact rfl
 exact (BOk.of (Xn:=(zae s_35).names) (XN:=["count","ruled","out"]) rfl rfl rfl (by decide +kernel))
 exact (zaA.name (i:=0) rfl)
 refine zew ?_ ?_
 exact T.n_range
 refine zaa ?_ ?_
 exact zab 0
 exact zad
 intro _ _ _
 exact zah 0 zsi
 intro _ _ _
 refine zbN ?_
 refine zaO ?_ ?_ ?_
 exact (zc0 (zdl hr))
 exact zab 0
 exact zab 1
 intro _ _ _
 exact zab 0
theorem nd_15:(["offers","things","offer"]:List Str).Nodup:=by decide +kernel
theorem sc_15:zal ["offers","things","offer"] ["offers"] (zae s_15):=⟨rfl,rfl,rfl,by decide +kernel,rfl,by decide +kernel,by decide +kernel⟩
theorem ok_15 (T:Tx K mg t):zbq P w K mg base CX0 1 t.a_15 t.d_15 ["offers"] (zbV K 1 F_15):=by
 refine zbj (k:=0) (G:=G_15) (N:=["offers","things","offer"]) (ps:=["offers"]) (st:=s_15) T.F_15 sc_15 fun cdv A outer s H E hr=> ?_
 refine zag ?_ ?_
 refine zaH 1 ?_ ?_
 exact nd_15
 refine zef ?_
 exact zad
 refine zag ?_ ?_
 refine zf4 ?_ ?_ ?_ ?_ ?_
 exact rfl
 exact PassesOwn.never
 refine zbz ?_
 exact zab 0
 exact zah 2 nd_15
 refine zaj ?_
 refine zcx ?_
 refine zm2 ?_ ?_
 exact zab 1
 refine za1 ?_ ?_
 exact zab 2
 exact zai
 refine zaj ?_
 refine zaN ?_
 refine zaI (T:="tuple") ?_ ?_ ?_ ?_
 exact zay
 exact zaR
 exact T.n_tuple
 refine zaa ?_ ?_
 refine zfF ?_ ?_ ?_ ?_
 exact rfl
 exact T.n_sorted
 exact T.n_set
 exact zab 1
 exact zad
theorem sc_16:zal ["stock","offers"] ["stock","offers"] (zae s_16):=⟨rfl,rfl,rfl,by decide +kernel,rfl,by decide +kernel,by decide +kernel⟩
theorem ok_16 (T:Tx K mg t):zbq P w K mg base CX0 2 t.a_16 t.d_16 ["stock","offers"] (zbV K 2 F_16):=by
 have G_15:=ok_15 (P:=P) (w:=w) (base:=base) T
 refine zbj (k:=1) (G:=G_16) (N:=["stock","offers"]) (ps:=["stock","offers"]) (st:=s_16) T.F_16 sc_16 fun cdv A outer s H E hr=> ?_
 refine zaj ?_
 refine zaN ?_
 refine zfo ?_ ?_ ?_
 exact (zcn (zdl hr))
 refine zaG (id:="len") ?_ ?_ ?_ ?_
 exact zav
 exact za5
 exact T.n_len
 refine zaa ?_ ?_
 refine zaB (k:=1) (g:=t.a_15) (fd:=t.d_15) (ps:=["offers"]) ?_ ?_ ?_ ?_ ?_ ?_
 exact G_15
 exact (hr.mono (by decide))
 exact T.m_15
 exact T.F_15.kp
 exact T.b_15
 refine zaa ?_ ?_
 exact zab 1
 exact zad
 exact zad
 refine za1 ?_ ?_
 exact zab 0
 exact zai
theorem sc_11:zal ["stock"] ["stock"] (zae s_11):=⟨rfl,rfl,rfl,by decide +kernel,rfl,by decide +kernel,by decide +kernel⟩
theorem ok_11 (T:Tx K mg t):zbq P w K mg base CX0 3 t.a_11 t.d_11 ["stock"] (zbV K 1 F_11):=by
 have G_16:=ok_16 (P:=P) (w:=w) (base:=base) T
 refine zbj (k:=2) (G:=G_11) (N:=["stock"]) (ps:=["stock"]) (st:=s_11) T.F_11 sc_11 fun cdv A outer s H E hr=> ?_
 refine zaj ?_
 refine zaN ?_
 refine zaB (k:=2) (g:=t.a_16) (fd:=t.d_16) (ps:=["stock","offers"]) ?_ ?_ ?_ ?_ ?_ ?_
 exact G_16
 exact (hr.mono (by decide))
 exact T.m_16
 exact T.F_16.kp
 exact T.b_16
 refine zaa ?_ ?_
 exact zab 0
 refine zaa ?_ ?_
 refine za1 ?_ ?_
 exact zab 0
 exact zai
 exact zad
theorem sc_12:zal ["stock"] ["stock"] (zae s_12):=⟨rfl,rfl,rfl,by decide +kernel,rfl,by decide +kernel,by decide +kernel⟩
theorem ok_12 (T:Tx K mg t):zbq P w K mg base (CXE P w) 4 t.a_12 t.d_12 ["stock"] (spE K 1 F_12):=by
 have G_11:=ok_11 (P:=P) (w:=w) (base:=base) T
 refine zdw (k:=3) (G:=G_12) (N:=["stock"]) (ps:=["stock"]) (st:=s_12) T.F_12 sc_12 fun cdv A outer s H E hr=> ?_
 refine zaj ?_
 refine zgi ?_ ?_ ?_
 refine ze0 ?_
 refine zdj ?_
 refine zcb (k:=3) (g:=t.a_11) (fd:=t.d_11) (ps:=["stock"]) ?_ ?_ ?_ ?_ ?_ ?_
 exact G_11
 exact (hr.mono (by decide))
 exact T.m_11
 exact T.F_11.kp
 exact T.b_11
 refine zaa ?_ ?_
 exact zab 0
 exact zad
 refine zaj ?_
 exact ziA (c:="NotFull") rfl zgV T.x_exc (by decide +kernel) T.k_6
 exact zbJ
theorem sc_32:zal ["table","other","number"] ["table","other","number"] (zae s_32):=⟨rfl,rfl,rfl,by decide +kernel,rfl,by decide +kernel,by decide +kernel⟩
theorem ok_32 (T:Tx K mg t):zbq P w K mg base CX0 1 t.a_32 t.d_32 ["table","other","number"] (zbV K 3 F_32):=by
 refine zbj (k:=0) (G:=G_32) (N:=["table","other","number"]) (ps:=["table","other","number"]) (st:=s_32) T.F_32 sc_32 fun cdv A outer s H E hr=> ?_
 refine zaj ?_
 refine zaN ?_
 refine zij ?_ ?_
 refine za1 ?_ ?_
 refine za1 ?_ ?_
 exact zab 0
 exact zab 2
 exact zab 1
 refine zf0 ?_
 refine ztQ ?_ ?_
 refine zfo ?_ ?_ ?_
 exact zfI
 exact zab 1
 exact zab 2
 refine zf0 ?_
 refine zmS ?_
 refine za1 ?_ ?_
 refine za1 ?_ ?_
 exact zab 0
 exact zab 1
 exact zab 2
theorem nd_31:(["table","ruled","number","rulers"]:List Str).Nodup:=by decide +kernel
theorem zqZ:(["other","table","number"]:List Str).Nodup:=by decide +kernel
theorem sc_31:zal ["table","ruled","number","rulers"] ["table"] (zae s_31):=⟨rfl,rfl,rfl,by decide +kernel,rfl,by decide +kernel,by decide +kernel⟩
theorem ok_31 (T:Tx K mg t):zbq P w K mg base CX0 2 t.a_31 t.d_31 ["table"] (zbV K 1 F_31):=by
 have G_32:=ok_32 (P:=P) (w:=w) (base:=base) T
 refine zbj (k:=1) (G:=G_31) (N:=["table","ruled","number","rulers"]) (ps:=["table"]) (st:=s_31) T.F_31 sc_31 fun cdv A outer s H E hr=> ?_
 refine zag ?_ ?_
 refine zaH 1 ?_ ?_
 exact nd_31
 refine zef ?_
 exact zad
 refine zag ?_ ?_
 refine zf4 ?_ ?_ ?_ ?_ ?_
 exact rfl
 exact PassesOwn.never
 refine zew ?_ ?_
 exact T.n_range
 refine zaa ?_ ?_
 refine zaG (id:="len") ?_ ?_ ?_ ?_
 exact zav
 exact za5
 exact T.n_len
 refine zaa ?_ ?_
 exact zab 0
 exact zad
 exact zad
 exact zah 2 nd_31
 refine zag ?_ ?_
 refine zdE 3 (N:=["other","table","number"]) ?_ ?_ ?_ ?_ ?_ ?_ ?_ ?_
 exact rfl
 exact nd_31
 exact (BOk.of (Xn:=(zae s_31).names) (XN:=["table","ruled","number","rulers"]) rfl rfl rfl (by decide +kernel))
 exact (zaA.name (i:=0) rfl)
 refine zew ?_ ?_
 exact T.n_range
 refine zaa ?_ ?_
 refine zaG (id:="len") ?_ ?_ ?_ ?_
 exact zav
 exact za5
 exact T.n_len
 refine zaa ?_ ?_
 exact zab 0
 exact zad
 exact zad
 intro _ _ _
 exact zah 0 zqZ
 intro _ _ _
 refine zbN ?_
 refine zdj ?_
 refine zaB (k:=1) (g:=t.a_32) (fd:=t.d_32) (ps:=["table","other","number"]) ?_ ?_ ?_ ?_ ?_ ?_
 exact G_32
 exact (hr.mono (by decide))
 exact T.m_32
 exact T.F_32.kp
 exact T.b_32
 refine zaa ?_ ?_
 exact zab 1
 refine zaa ?_ ?_
 exact zab 0
 refine zaa ?_ ?_
 exact zab 2
 exact zad
 intro _ _ _
 exact zab 0
 refine zaj ?_
 refine zgi ?_ ?_ ?_
 refine znV ?_
 exact zab 3
 refine zaj ?_
 refine zcx ?_
 refine zdf ?_ ?_
 exact zab 1
 refine zbb ?_
 refine zaa ?_ ?_
 exact zab 2
 refine zaa ?_ ?_
 refine za1 ?_ ?_
 exact zab 3
 exact zai
 exact zad
 exact zbJ
 refine zaj ?_
 refine zaN ?_
 refine zmO ?_
 exact zab 1
theorem zq1:(["number","others"]:List Str).Nodup:=by decide +kernel
theorem sc_30:zal ["numbers","others"] ["numbers","others"] (zae s_30):=⟨rfl,rfl,rfl,by decide +kernel,rfl,by decide +kernel,by decide +kernel⟩
theorem ok_30 (T:Tx K mg t):zbq P w K mg base CX0 1 t.a_30 t.d_30 ["numbers","others"] (zbV K 2 F_30):=by
 refine zbj (k:=0) (G:=G_30) (N:=["numbers","others"]) (ps:=["numbers","others"]) (st:=s_30) T.F_30 sc_30 fun cdv A outer s H E hr=> ?_
 refine zaj ?_
 refine zaN ?_
 refine zaG (id:="all") ?_ ?_ ?_ ?_
 exact (zfr rfl)
 exact zkH
 exact T.n_all
 refine zaa ?_ ?_
 refine zaQ (N:=["number","others"]) ?_ ?_ ?_ ?_ ?_ ?_ ?_
 exact rfl
 exact (BOk.of (Xn:=(zae s_30).names) (XN:=["numbers","others"]) rfl rfl rfl (by decide +kernel))
 exact (zaA.name (i:=0) rfl)
 refine zbz ?_
 exact zab 0
 intro _ _ _
 exact zah 0 zq1
 intro _ _ _
 exact zbx
 intro _ _ _
 refine zfo ?_ ?_ ?_
 exact (zfv (zdl hr))
 exact zab 0
 exact zab 1
 exact zad
theorem ztu:(["other","offer"]:List Str).Nodup:=by decide +kernel
theorem sc_27:zal ["stock","offer"] ["stock","offer"] (zae s_27):=⟨rfl,rfl,rfl,by decide +kernel,rfl,by decide +kernel,by decide +kernel⟩
theorem ok_27 (T:Tx K mg t):zbq P w K mg base CX0 2 t.a_27 t.d_27 ["stock","offer"] (zbV K 2 F_27):=by
 have G_30:=ok_30 (P:=P) (w:=w) (base:=base) T
 refine zbj (k:=1) (G:=G_27) (N:=["stock","offer"]) (ps:=["stock","offer"]) (st:=s_27) T.F_27 sc_27 fun cdv A outer s H E hr=> ?_
 refine zaj ?_
 refine zaN ?_
 refine zaQ (N:=["other","offer"]) ?_ ?_ ?_ ?_ ?_ ?_ ?_
 exact rfl
 exact (BOk.of (Xn:=(zae s_27).names) (XN:=["stock","offer"]) rfl rfl rfl (by decide +kernel))
 exact (zaA.name (i:=0) rfl)
 refine zbz ?_
 refine za1 ?_ ?_
 exact zab 0
 exact zai
 intro _ _ _
 exact zah 0 ztu
 intro _ _ _
 exact zbx
 intro _ _ _
 refine zij ?_ ?_
 refine zfo ?_ ?_ ?_
 exact zlM
 refine za1 ?_ ?_
 exact zab 0
 exact zai
 refine za1 ?_ ?_
 exact zab 1
 exact zai
 refine zf0 ?_
 refine zaB (k:=1) (g:=t.a_30) (fd:=t.d_30) (ps:=["numbers","others"]) ?_ ?_ ?_ ?_ ?_ ?_
 exact G_30
 exact (hr.mono (by decide))
 exact T.m_30
 exact T.F_30.kp
 exact T.b_30
 refine zaa ?_ ?_
 refine za1 ?_ ?_
 exact zab 1
 exact zai
 refine zaa ?_ ?_
 refine za1 ?_ ?_
 exact zab 0
 exact zai
 exact zad
theorem ztC:(["offer","stock"]:List Str).Nodup:=by decide +kernel
theorem sc_26:zal ["stock"] ["stock"] (zae s_26):=⟨rfl,rfl,rfl,by decide +kernel,rfl,by decide +kernel,by decide +kernel⟩
theorem ok_26 (T:Tx K mg t):zbq P w K mg base CX0 3 t.a_26 t.d_26 ["stock"] (zbV K 1 F_26):=by
 have G_27:=ok_27 (P:=P) (w:=w) (base:=base) T
 refine zbj (k:=2) (G:=G_26) (N:=["stock"]) (ps:=["stock"]) (st:=s_26) T.F_26 sc_26 fun cdv A outer s H E hr=> ?_
 refine zaj ?_
 refine zaN ?_
 refine zaQ (N:=["offer","stock"]) ?_ ?_ ?_ ?_ ?_ ?_ ?_
 exact rfl
 exact (BOk.of (Xn:=(zae s_26).names) (XN:=["stock"]) rfl rfl rfl (by decide +kernel))
 exact (zaA.name (i:=0) rfl)
 refine zbz ?_
 refine za1 ?_ ?_
 exact zab 0
 exact zai
 intro _ _ _
 exact zah 0 ztC
 intro _ _ _
 exact zbx
 intro _ _ _
 refine zaB (k:=2) (g:=t.a_27) (fd:=t.d_27) (ps:=["stock","offer"]) ?_ ?_ ?_ ?_ ?_ ?_
 exact G_27
 exact (hr.mono (by decide))
 exact T.m_27
 exact T.F_27.kp
 exact T.b_27
 refine zaa ?_ ?_
 exact zab 1
 refine zaa ?_ ?_
 exact zab 0
 exact zad
theorem sc_22:zal ["stock"] ["stock"] (zae s_22):=⟨rfl,rfl,rfl,by decide +kernel,rfl,by decide +kernel,by decide +kernel⟩
theorem ok_22 (T:Tx K mg t):zbq P w K mg base (CXE P w) 5 t.a_22 t.d_22 ["stock"] (spE K 1 F_22):=by
 have G_12:=ok_12 (P:=P) (w:=w) (base:=base) T
 have G_31:=ok_31 (P:=P) (w:=w) (base:=base) T
 have G_26:=ok_26 (P:=P) (w:=w) (base:=base) T
 refine zdw (k:=4) (G:=G_22) (N:=["stock"]) (ps:=["stock"]) (st:=s_22) T.F_22 sc_22 fun cdv A outer s H E hr=> ?_
 refine zag ?_ ?_
 refine zcx ?_
 refine zbF (k:=4) (g:=t.a_12) (fd:=t.d_12) (ps:=["stock"]) ?_ ?_ ?_ ?_ ?_ ?_ ?_
 exact G_12
 exact zca
 exact (hr.mono (by decide))
 exact T.m_12
 exact T.F_12.kp
 exact T.b_12
 refine zaa ?_ ?_
 exact zab 0
 exact zad
 refine zaj ?_
 refine zaN ?_
 refine zcb (k:=2) (g:=t.a_31) (fd:=t.d_31) (ps:=["table"]) ?_ ?_ ?_ ?_ ?_ ?_
 exact G_31
 exact (hr.mono (by decide))
 exact T.m_31
 exact T.F_31.kp
 exact T.b_31
 refine zaa ?_ ?_
 refine zcb (k:=3) (g:=t.a_26) (fd:=t.d_26) (ps:=["stock"]) ?_ ?_ ?_ ?_ ?_ ?_
 exact G_26
 exact (hr.mono (by decide))
 exact T.m_26
 exact T.F_26.kp
 exact T.b_26
 refine zaa ?_ ?_
 exact zab 0
 exact zad
 exact zad
theorem zs0:(["number","offer","thing"]:List Str).Nodup:=by decide +kernel
theorem sc_17:zal ["stock","thing"] ["stock","thing"] (zae s_17):=⟨rfl,rfl,rfl,by decide +kernel,rfl,by decide +kernel,by decide +kernel⟩
theorem ok_17 (T:Tx K mg t):zbq P w K mg base CX0 1 t.a_17 t.d_17 ["stock","thing"] (zbV K 2 F_17):=by
 refine zbj (k:=0) (G:=G_17) (N:=["stock","thing"]) (ps:=["stock","thing"]) (st:=s_17) T.F_17 sc_17 fun cdv A outer s H E hr=> ?_
 refine zaj ?_
 refine zaN ?_
 refine zaI (T:="tuple") ?_ ?_ ?_ ?_
 exact zay
 exact zaR
 exact T.n_tuple
 refine zaa ?_ ?_
 refine zaQ (N:=["number","offer","thing"]) ?_ ?_ ?_ ?_ ?_ ?_ ?_
 exact rfl
 exact (BOk.of (Xn:=(zae s_17).names) (XN:=["stock","thing"]) rfl rfl rfl (by decide +kernel))
 exact (zaA.tup (zaT.cons (i:=0) rfl (zaT.cons (i:=1) rfl zaT.nil)))
 refine zoq ?_ ?_
 exact T.n_enumerate
 refine za1 ?_ ?_
 exact zab 0
 exact zai
 intro _ _ _
 refine zcE ?_ ?_
 exact rfl
 refine zaD ?_ ?_
 exact zah 0 zs0
 refine zaD ?_ ?_
 exact zah 1 zs0
 exact zbL
 intro _ _ _
 refine zbN ?_
 refine zaO ?_ ?_ ?_
 exact (zfv (zdl hr))
 exact zab 2
 refine za1 ?_ ?_
 exact zab 1
 exact zai
 intro _ _ _
 exact zab 0
 exact zad
theorem nd_29:(["stock","thing","having"]:List Str).Nodup:=by decide +kernel
theorem zrk:(["other","stock","having"]:List Str).Nodup:=by decide +kernel
theorem sc_29:zal ["stock","thing","having"] ["stock","thing"] (zae s_29):=⟨rfl,rfl,rfl,by decide +kernel,rfl,by decide +kernel,by decide +kernel⟩
theorem ok_29 (T:Tx K mg t):zbq P w K mg base CX0 2 t.a_29 t.d_29 ["stock","thing"] (zbV K 2 F_29):=by
 have G_17:=ok_17 (P:=P) (w:=w) (base:=base) T
 have G_30:=ok_30 (P:=P) (w:=w) (base:=base) T
 refine zbj (k:=1) (G:=G_29) (N:=["stock","thing","having"]) (ps:=["stock","thing"]) (st:=s_29) T.F_29 sc_29 fun cdv A outer s H E hr=> ?_
 refine zag ?_ ?_
 refine zaH 2 ?_ ?_
 exact nd_29
 refine zaB (k:=1) (g:=t.a_17) (fd:=t.d_17) (ps:=["stock","thing"]) ?_ ?_ ?_ ?_ ?_ ?_
 exact G_17
 exact (hr.mono (by decide))
 exact T.m_17
 exact T.F_17.kp
 exact T.b_17
 refine zaa ?_ ?_
 exact zab 0
 refine zaa ?_ ?_
 exact zab 1
 exact zad
 refine zaj ?_
 refine zaN ?_
 refine zaQ (N:=["other","stock","having"]) ?_ ?_ ?_ ?_ ?_ ?_ ?_
 exact rfl
 exact (BOk.of (Xn:=(zae s_29).names) (XN:=["stock","thing","having"]) rfl rfl rfl (by decide +kernel))
 exact (zaA.name (i:=0) rfl)
 refine zew ?_ ?_
 exact T.n_range
 refine zaa ?_ ?_
 refine za1 ?_ ?_
 exact zab 0
 exact zai
 exact zad
 intro _ _ _
 exact zah 0 zrk
 intro _ _ _
 exact zbx
 intro _ _ _
 refine zaB (k:=1) (g:=t.a_30) (fd:=t.d_30) (ps:=["numbers","others"]) ?_ ?_ ?_ ?_ ?_ ?_
 exact G_30
 exact (hr.mono (by decide))
 exact T.m_30
 exact T.F_30.kp
 exact T.b_30
 refine zaa ?_ ?_
 refine zaB (k:=1) (g:=t.a_17) (fd:=t.d_17) (ps:=["stock","thing"]) ?_ ?_ ?_ ?_ ?_ ?_
 exact G_17
 exact (hr.mono (by decide))
 exact T.m_17
 exact T.F_17.kp
 exact T.b_17
 refine zaa ?_ ?_
 exact zab 1
 refine zaa ?_ ?_
 exact zab 0
 exact zad
 refine zaa ?_ ?_
 exact zab 2
 exact zad
theorem zuh:(["thing","stock"]:List Str).Nodup:=by decide +kernel
theorem sc_28:zal ["stock"] ["stock"] (zae s_28):=⟨rfl,rfl,rfl,by decide +kernel,rfl,by decide +kernel,by decide +kernel⟩
theorem ok_28 (T:Tx K mg t):zbq P w K mg base CX0 3 t.a_28 t.d_28 ["stock"] (zbV K 1 F_28):=by
 have G_29:=ok_29 (P:=P) (w:=w) (base:=base) T
 refine zbj (k:=2) (G:=G_28) (N:=["stock"]) (ps:=["stock"]) (st:=s_28) T.F_28 sc_28 fun cdv A outer s H E hr=> ?_
 refine zaj ?_
 refine zaN ?_
 refine zaQ (N:=["thing","stock"]) ?_ ?_ ?_ ?_ ?_ ?_ ?_
 exact rfl
 exact (BOk.of (Xn:=(zae s_28).names) (XN:=["stock"]) rfl rfl rfl (by decide +kernel))
 exact (zaA.name (i:=0) rfl)
 refine zew ?_ ?_
 exact T.n_range
 refine zaa ?_ ?_
 refine za1 ?_ ?_
 exact zab 0
 exact zai
 exact zad
 intro _ _ _
 exact zah 0 zuh
 intro _ _ _
 exact zbx
 intro _ _ _
 refine zaB (k:=2) (g:=t.a_29) (fd:=t.d_29) (ps:=["stock","thing"]) ?_ ?_ ?_ ?_ ?_ ?_
 exact G_29
 exact (hr.mono (by decide))
 exact T.m_29
 exact T.F_29.kp
 exact T.b_29
 refine zaa ?_ ?_
 exact zab 1
 refine zaa ?_ ?_
 exact zab 0
 exact zad
theorem sc_23:zal ["stock"] ["stock"] (zae s_23):=⟨rfl,rfl,rfl,by decide +kernel,rfl,by decide +kernel,by decide +kernel⟩
theorem ok_23 (T:Tx K mg t):zbq P w K mg base (CXE P w) 5 t.a_23 t.d_23 ["stock"] (spE K 1 F_23):=by
 have G_12:=ok_12 (P:=P) (w:=w) (base:=base) T
 have G_31:=ok_31 (P:=P) (w:=w) (base:=base) T
 have G_28:=ok_28 (P:=P) (w:=w) (base:=base) T
 refine zdw (k:=4) (G:=G_23) (N:=["stock"]) (ps:=["stock"]) (st:=s_23) T.F_23 sc_23 fun cdv A outer s H E hr=> ?_
 refine zag ?_ ?_
 refine zcx ?_
 refine zbF (k:=4) (g:=t.a_12) (fd:=t.d_12) (ps:=["stock"]) ?_ ?_ ?_ ?_ ?_ ?_ ?_
 exact G_12
 exact zca
 exact (hr.mono (by decide))
 exact T.m_12
 exact T.F_12.kp
 exact T.b_12
 refine zaa ?_ ?_
 exact zab 0
 exact zad
 refine zaj ?_
 refine zaN ?_
 refine zcb (k:=2) (g:=t.a_31) (fd:=t.d_31) (ps:=["table"]) ?_ ?_ ?_ ?_ ?_ ?_
 exact G_31
 exact (hr.mono (by decide))
 exact T.m_31
 exact T.F_31.kp
 exact T.b_31
 refine zaa ?_ ?_
 refine zcb (k:=3) (g:=t.a_28) (fd:=t.d_28) (ps:=["stock"]) ?_ ?_ ?_ ?_ ?_ ?_
 exact G_28
 exact (hr.mono (by decide))
 exact T.m_28
 exact T.F_28.kp
 exact T.b_28
 refine zaa ?_ ?_
 exact zab 0
 exact zad
 exact zad
theorem zqR:(["place","thing","offer"]:List Str).Nodup:=by decide +kernel
theorem sc_19:zal ["offer","things"] ["offer","things"] (zae s_19):=⟨rfl,rfl,rfl,by decide +kernel,rfl,by decide +kernel,by decide +kernel⟩
theorem ok_19 (T:Tx K mg t):zbq P w K mg base CX0 1 t.a_19 t.d_19 ["offer","things"] (zbV K 2 F_19):=by
 refine zbj (k:=0) (G:=G_19) (N:=["offer","things"]) (ps:=["offer","things"]) (st:=s_19) T.F_19 sc_19 fun cdv A outer s H E hr=> ?_
 refine zaj ?_
 refine zaN ?_
 refine zaI (T:="tuple") ?_ ?_ ?_ ?_
 exact zay
 exact zaR
 exact T.n_tuple
 refine zaa ?_ ?_
 refine zaQ (N:=["place","thing","offer"]) ?_ ?_ ?_ ?_ ?_ ?_ ?_
 exact rfl
 exact (BOk.of (Xn:=(zae s_19).names) (XN:=["offer","things"]) rfl rfl rfl (by decide +kernel))
 exact (zaA.tup (zaT.cons (i:=0) rfl (zaT.cons (i:=1) rfl zaT.nil)))
 refine zlJ ?_ ?_
 exact T.n_enumerate
 exact zab 1
 intro _ _ _
 refine zcE ?_ ?_
 exact rfl
 refine zaD ?_ ?_
 exact zah 0 zqR
 refine zaD ?_ ?_
 exact zah 1 zqR
 exact zbL
 intro _ _ _
 refine zbN ?_
 refine zaO ?_ ?_ ?_
 exact (zfv (zdl hr))
 exact zab 1
 refine za1 ?_ ?_
 exact zab 2
 exact zai
 intro _ _ _
 exact zab 0
 exact zad
theorem nd_18:(["stock","things","numbers","offers"]:List Str).Nodup:=by decide +kernel
theorem zth:(["number","stock"]:List Str).Nodup:=by decide +kernel
theorem ztA:(["offer","things"]:List Str).Nodup:=by decide +kernel
theorem sc_18:zal ["stock","things","numbers","offers"] ["stock","things","numbers"] (zae s_18):=⟨rfl,rfl,rfl,by decide +kernel,rfl,by decide +kernel,by decide +kernel⟩
theorem ok_18 (T:Tx K mg t):zbq P w K mg base CX0 2 t.a_18 t.d_18 ["stock","things","numbers"] (zbV K 3 F_18):=by
 have G_19:=ok_19 (P:=P) (w:=w) (base:=base) T
 refine zbj (k:=1) (G:=G_18) (N:=["stock","things","numbers","offers"]) (ps:=["stock","things","numbers"]) (st:=s_18) T.F_18 sc_18 fun cdv A outer s H E hr=> ?_
 refine zag ?_ ?_
 refine zdE 3 (N:=["number","stock"]) ?_ ?_ ?_ ?_ ?_ ?_ ?_ ?_
 exact rfl
 exact nd_18
 exact (BOk.of (Xn:=(zae s_18).names) (XN:=["stock","things","numbers","offers"]) rfl rfl rfl (by decide +kernel))
 exact (zaA.name (i:=0) rfl)
 refine zbz ?_
 exact zab 2
 intro _ _ _
 exact zah 0 zth
 intro _ _ _
 exact zbx
 intro _ _ _
 refine za1 ?_ ?_
 refine za1 ?_ ?_
 exact zab 1
 exact zai
 exact zab 0
 refine zaj ?_
 refine zaN ?_
 refine zbb ?_
 refine zaa ?_ ?_
 refine zaG (id:="len") ?_ ?_ ?_ ?_
 exact zav
 exact za5
 exact T.n_len
 refine zaa ?_ ?_
 exact zab 1
 exact zad
 refine zaa ?_ ?_
 refine zaI (T:="tuple") ?_ ?_ ?_ ?_
 exact zay
 exact zaR
 exact T.n_tuple
 refine zaa ?_ ?_
 refine zaQ (N:=["offer","things"]) ?_ ?_ ?_ ?_ ?_ ?_ ?_
 exact rfl
 exact (BOk.of (Xn:=(zae s_18).names) (XN:=["stock","things","numbers","offers"]) rfl rfl rfl (by decide +kernel))
 exact (zaA.name (i:=0) rfl)
 refine zbz ?_
 exact zab 3
 intro _ _ _
 exact zah 0 ztA
 intro _ _ _
 exact zbx
 intro _ _ _
 refine zbb ?_
 refine zaa ?_ ?_
 refine zaB (k:=1) (g:=t.a_19) (fd:=t.d_19) (ps:=["offer","things"]) ?_ ?_ ?_ ?_ ?_ ?_
 exact G_19
 exact (hr.mono (by decide))
 exact T.m_19
 exact T.F_19.kp
 exact T.b_19
 refine zaa ?_ ?_
 exact zab 0
 refine zaa ?_ ?_
 exact zab 1
 exact zad
 refine zaa ?_ ?_
 refine za1 ?_ ?_
 exact zab 0
 exact zai
 exact zad
 exact zad
 exact zad
theorem nd_34:(["stay","stock","numbers","every","things","old_things","old_offers"]:List Str).Nodup:=by decide +kernel
theorem zqW:(["number","stock","things"]:List Str).Nodup:=by decide +kernel
theorem zsm:(["thing","stay"]:List Str).Nodup:=by decide +kernel
theorem zsJ:(["number","stay"]:List Str).Nodup:=by decide +kernel
theorem sc_34:zal ["stay","stock","numbers","every","things","old_things","old_offers"] ["stay"] (zae s_34):=⟨rfl,rfl,rfl,by decide +kernel,rfl,by decide +kernel,by decide +kernel⟩
theorem ok_34 (T:Tx K mg t):zbq P w K mg base (CXE P w) 6 t.a_34 t.d_34 ["stay"] (spE K 1 F_34):=by
 have G_35:=ok_35 (P:=P) (w:=w) (base:=base) T
 have G_22:=ok_22 (P:=P) (w:=w) (base:=base) T
 have G_23:=ok_23 (P:=P) (w:=w) (base:=base) T
 have G_18:=ok_18 (P:=P) (w:=w) (base:=base) T
 have G_19:=ok_19 (P:=P) (w:=w) (base:=base) T
 refine zdw (k:=5) (G:=G_34) (N:=["stay","stock","numbers","every","things","old_things","old_offers"]) (ps:=["stay"]) (st:=s_34) T.F_34 sc_34 fun cdv A outer s H E hr=> ?_
 refine zag ?_ ?_
 refine zaH 1 ?_ ?_
 exact nd_34
 refine za1 ?_ ?_
 exact zab 0
 exact zai
 refine zag ?_ ?_
 refine zaH 2 ?_ ?_
 exact nd_34
 refine zcb (k:=1) (g:=t.a_35) (fd:=t.d_35) (ps:=["count","ruled"]) ?_ ?_ ?_ ?_ ?_ ?_
 exact G_35
 exact (hr.mono (by decide))
 exact T.m_35
 exact T.F_35.kp
 exact T.b_35
 refine zaa ?_ ?_
 refine zaG (id:="len") ?_ ?_ ?_ ?_
 exact zav
 exact za5
 exact T.n_len
 refine zaa ?_ ?_
 refine za1 ?_ ?_
 exact zab 1
 exact zai
 exact zad
 refine zaa ?_ ?_
 refine zbF (k:=5) (g:=t.a_22) (fd:=t.d_22) (ps:=["stock"]) ?_ ?_ ?_ ?_ ?_ ?_ ?_
 exact G_22
 exact zca
 exact (hr.mono (by decide))
 exact T.m_22
 exact T.F_22.kp
 exact T.b_22
 refine zaa ?_ ?_
 exact zab 1
 exact zad
 exact zad
 refine zag ?_ ?_
 refine zaH 3 ?_ ?_
 exact nd_34
 refine zdu ?_ ?_ ?_ ?_
 exact rfl
 exact T.n_list
 exact T.n_range
 refine za1 ?_ ?_
 exact zab 1
 exact zai
 refine zag ?_ ?_
 refine zaH 4 ?_ ?_
 exact nd_34
 refine zcb (k:=1) (g:=t.a_35) (fd:=t.d_35) (ps:=["count","ruled"]) ?_ ?_ ?_ ?_ ?_ ?_
 exact G_35
 exact (hr.mono (by decide))
 exact T.m_35
 exact T.F_35.kp
 exact T.b_35
 refine zaa ?_ ?_
 refine za1 ?_ ?_
 exact zab 1
 exact zai
 refine zaa ?_ ?_
 refine zbF (k:=5) (g:=t.a_23) (fd:=t.d_23) (ps:=["stock"]) ?_ ?_ ?_ ?_ ?_ ?_ ?_
 exact G_23
 exact zca
 exact (hr.mono (by decide))
 exact T.m_23
 exact T.F_23.kp
 exact T.b_23
 refine zaa ?_ ?_
 refine zcb (k:=2) (g:=t.a_18) (fd:=t.d_18) (ps:=["stock","things","numbers"]) ?_ ?_ ?_ ?_ ?_ ?_
 exact G_18
 exact (hr.mono (by decide))
 exact T.m_18
 exact T.F_18.kp
 exact T.b_18
 refine zaa ?_ ?_
 exact zab 1
 refine zaa ?_ ?_
 exact zab 3
 refine zaa ?_ ?_
 exact zab 2
 exact zad
 exact zad
 exact zad
 refine zag ?_ ?_
 refine zof ?_
 refine zdE 2 (N:=["number","stock","things"]) ?_ ?_ ?_ ?_ ?_ ?_ ?_ ?_
 exact rfl
 exact nd_34
 exact (BOk.of (Xn:=(zae s_34).names) (XN:=["stay","stock","numbers","every","things","old_things","old_offers"]) rfl rfl rfl (by decide +kernel))
 exact (zaA.name (i:=0) rfl)
 refine zbz ?_
 exact zab 2
 intro _ _ _
 exact zah 0 zqW
 intro _ _ _
 refine zbN ?_
 refine znV ?_
 refine zaB (k:=1) (g:=t.a_19) (fd:=t.d_19) (ps:=["offer","things"]) ?_ ?_ ?_ ?_ ?_ ?_
 exact G_19
 exact (hr.mono (by decide))
 exact T.m_19
 exact T.F_19.kp
 exact T.b_19
 refine zaa ?_ ?_
 refine za1 ?_ ?_
 refine za1 ?_ ?_
 exact zab 1
 exact zai
 exact zab 0
 refine zaa ?_ ?_
 exact zab 2
 exact zad
 intro _ _ _
 exact zab 0
 refine zag ?_ ?_
 refine zaH 5 ?_ ?_
 exact nd_34
 refine zaI (T:="tuple") ?_ ?_ ?_ ?_
 exact zay
 exact zaR
 exact T.n_tuple
 refine zaa ?_ ?_
 refine zaQ (N:=["thing","stay"]) ?_ ?_ ?_ ?_ ?_ ?_ ?_
 exact rfl
 exact (BOk.of (Xn:=(zae s_34).names) (XN:=["stay","stock","numbers","every","things","old_things","old_offers"]) rfl rfl rfl (by decide +kernel))
 exact (zaA.name (i:=0) rfl)
 refine zbz ?_
 exact zab 4
 intro _ _ _
 exact zah 0 zsm
 intro _ _ _
 exact zbx
 intro _ _ _
 refine za1 ?_ ?_
 refine za1 ?_ ?_
 exact zab 1
 exact zai
 exact zab 0
 exact zad
 refine zag ?_ ?_
 refine zaH 6 ?_ ?_
 exact nd_34
 refine zaI (T:="tuple") ?_ ?_ ?_ ?_
 exact zay
 exact zaR
 exact T.n_tuple
 refine zaa ?_ ?_
 refine zaQ (N:=["number","stay"]) ?_ ?_ ?_ ?_ ?_ ?_ ?_
 exact rfl
 exact (BOk.of (Xn:=(zae s_34).names) (XN:=["stay","stock","numbers","every","things","old_things","old_offers"]) rfl rfl rfl (by decide +kernel))
 exact (zaA.name (i:=0) rfl)
 refine zbz ?_
 exact zab 2
 intro _ _ _
 exact zah 0 zsJ
 intro _ _ _
 exact zbx
 intro _ _ _
 refine za1 ?_ ?_
 refine za1 ?_ ?_
 exact zab 1
 exact zai
 exact zab 0
 exact zad
 refine zaj ?_
 refine zaN ?_
 refine zbb ?_
 refine zaa ?_ ?_
 refine zcb (k:=2) (g:=t.a_18) (fd:=t.d_18) (ps:=["stock","things","numbers"]) ?_ ?_ ?_ ?_ ?_ ?_
 exact G_18
 exact (hr.mono (by decide))
 exact T.m_18
 exact T.F_18.kp
 exact T.b_18
 refine zaa ?_ ?_
 exact zab 1
 refine zaa ?_ ?_
 exact zab 4
 refine zaa ?_ ?_
 exact zab 2
 exact zad
 refine zaa ?_ ?_
 exact zab 5
 refine zaa ?_ ?_
 exact zab 6
 exact zad
theorem nd_33:(["stock","stays","later"]:List Str).Nodup:=by decide +kernel
theorem sc_33:zal ["stock","stays","later"] ["stock"] (zae s_33):=⟨rfl,rfl,rfl,by decide +kernel,rfl,by decide +kernel,by decide +kernel⟩
theorem ok_33 (T:Tx K mg t):zbq P w K mg base (CXE P w) 7 t.a_33 t.d_33 ["stock"] (spE K 1 F_33):=by
 have G_34:=ok_34 (P:=P) (w:=w) (base:=base) T
 refine zdw (k:=6) (G:=G_33) (N:=["stock","stays","later"]) (ps:=["stock"]) (st:=s_33) T.F_33 sc_33 fun cdv A outer s H E hr=> ?_
 refine zag ?_ ?_
 refine zaH 1 ?_ ?_
 exact nd_33
 refine zef ?_
 refine zaa ?_ ?_
 refine zbb ?_
 refine zaa ?_ ?_
 exact zab 0
 refine zaa ?_ ?_
 refine ze8 ?_ ?_ ?_ ?_
 exact rfl
 exact T.n_tuple
 exact T.n_range
 refine za1 ?_ ?_
 exact zab 0
 exact zai
 refine zaa ?_ ?_
 refine ze8 ?_ ?_ ?_ ?_
 exact rfl
 exact T.n_tuple
 exact T.n_range
 refine zaG (id:="len") ?_ ?_ ?_ ?_
 exact zav
 exact za5
 exact T.n_len
 refine zaa ?_ ?_
 refine za1 ?_ ?_
 exact zab 0
 exact zai
 exact zad
 exact zad
 exact zad
 refine zag ?_ ?_
 refine zaH 2 ?_ ?_
 exact nd_33
 refine zbF (k:=6) (g:=t.a_34) (fd:=t.d_34) (ps:=["stay"]) ?_ ?_ ?_ ?_ ?_ ?_ ?_
 exact G_34
 exact zca
 exact (hr.mono (by decide))
 exact T.m_34
 exact T.F_34.kp
 exact T.b_34
 refine zaa ?_ ?_
 refine za1 ?_ ?_
 exact zab 1
 refine zj4 ?_
 exact zai
 exact zad
 refine zag ?_ ?_
 refine zof ?_
 refine zig 1000 ?_ ?_ ?_
 exact PassesOwn.never
 refine zaO ?_ ?_ ?_
 exact (zeA (zdl hr))
 exact zab 2
 refine za1 ?_ ?_
 exact zab 1
 refine zj4 ?_
 exact zai
 refine zag ?_ ?_
 refine zcx ?_
 refine zdf ?_ ?_
 exact zab 1
 exact zab 2
 refine zaj ?_
 refine zaH 2 ?_ ?_
 exact nd_33
 refine zbF (k:=6) (g:=t.a_34) (fd:=t.d_34) (ps:=["stay"]) ?_ ?_ ?_ ?_ ?_ ?_ ?_
 exact G_34
 exact zie
 exact (hr.mono (by decide))
 exact T.m_34
 exact T.F_34.kp
 exact T.b_34
 refine zaa ?_ ?_
 exact zab 2
 exact zad
 refine zaj ?_
 refine zaN ?_
 refine zmO ?_
 exact zab 1
theorem sc_24:zal ["stock"] ["stock"] (zae s_24):=⟨rfl,rfl,rfl,by decide +kernel,rfl,by decide +kernel,by decide +kernel⟩
theorem ok_24 (T:Tx K mg t):zbq P w K mg base (CXE P w) 8 t.a_24 t.d_24 ["stock"] (spE K 1 F_24):=by
 have G_33:=ok_33 (P:=P) (w:=w) (base:=base) T
 refine zdw (k:=7) (G:=G_24) (N:=["stock"]) (ps:=["stock"]) (st:=s_24) T.F_24 sc_24 fun cdv A outer s H E hr=> ?_
 refine zaj ?_
 refine zaN ?_
 refine za1 ?_ ?_
 refine zbF (k:=7) (g:=t.a_33) (fd:=t.d_33) (ps:=["stock"]) ?_ ?_ ?_ ?_ ?_ ?_ ?_
 exact G_33
 exact zca
 exact (hr.mono (by decide))
 exact T.m_33
 exact T.F_33.kp
 exact T.b_33
 refine zaa ?_ ?_
 exact zab 0
 exact zad
 refine zj4 ?_
 exact zai
theorem zt4:(["number","stock"]:List Str).Nodup:=by decide +kernel
theorem sc_14:zal ["stock","lot"] ["stock","lot"] (zae s_14):=⟨rfl,rfl,rfl,by decide +kernel,rfl,by decide +kernel,by decide +kernel⟩
theorem ok_14 (T:Tx K mg t):zbq P w K mg base (CXE P w) 5 t.a_14 t.d_14 ["stock","lot"] (spE K 2 F_14):=by
 have G_13:=ok_13 (P:=P) (w:=w) (base:=base) T
 refine zdw (k:=4) (G:=G_14) (N:=["stock","lot"]) (ps:=["stock","lot"]) (st:=s_14) T.F_14 sc_14 fun cdv A outer s H E hr=> ?_
 refine zag ?_ ?_
 refine zcx ?_
 refine zbF (k:=4) (g:=t.a_13) (fd:=t.d_13) (ps:=["stock","lot"]) ?_ ?_ ?_ ?_ ?_ ?_ ?_
 exact G_13
 exact zca
 exact (hr.mono (by decide))
 exact T.m_13
 exact T.F_13.kp
 exact T.b_13
 refine zaa ?_ ?_
 exact zab 0
 refine zaa ?_ ?_
 exact zab 1
 exact zad
 refine zaj ?_
 refine zaN ?_
 refine zaQ (N:=["number","stock"]) ?_ ?_ ?_ ?_ ?_ ?_ ?_
 exact rfl
 exact (BOk.of (Xn:=(zae s_14).names) (XN:=["stock","lot"]) rfl rfl rfl (by decide +kernel))
 exact (zaA.name (i:=0) rfl)
 refine zbz ?_
 exact zab 1
 intro _ _ _
 exact zah 0 zt4
 intro _ _ _
 exact zbx
 intro _ _ _
 refine za1 ?_ ?_
 refine za1 ?_ ?_
 exact zab 1
 exact zai
 exact zab 0
theorem sc_20:zal ["stock","thing"] ["stock","thing"] (zae s_20):=⟨rfl,rfl,rfl,by decide +kernel,rfl,by decide +kernel,by decide +kernel⟩
theorem ok_20 (T:Tx K mg t):zbq P w K mg base (CXE P w) 6 t.a_20 t.d_20 ["stock","thing"] (spE K 2 F_20):=by
 have G_16:=ok_16 (P:=P) (w:=w) (base:=base) T
 have G_14:=ok_14 (P:=P) (w:=w) (base:=base) T
 have G_10:=ok_10 (P:=P) (w:=w) (base:=base) T
 refine zdw (k:=5) (G:=G_20) (N:=["stock","thing"]) (ps:=["stock","thing"]) (st:=s_20) T.F_20 sc_20 fun cdv A outer s H E hr=> ?_
 refine zaj ?_
 refine zaN ?_
 refine zij ?_ ?_
 refine zcb (k:=3) (g:=t.a_10) (fd:=t.d_10) (ps:=["stock","thing"]) ?_ ?_ ?_ ?_ ?_ ?_
 exact G_10
 exact (hr.mono (by decide))
 exact T.m_10
 exact T.F_10.kp
 exact T.b_10
 refine zaa ?_ ?_
 exact zab 0
 refine zaa ?_ ?_
 exact zab 1
 exact zad
 refine zf0 ?_
 refine zcb (k:=2) (g:=t.a_16) (fd:=t.d_16) (ps:=["stock","offers"]) ?_ ?_ ?_ ?_ ?_ ?_
 exact G_16
 exact (hr.mono (by decide))
 exact T.m_16
 exact T.F_16.kp
 exact T.b_16
 refine zaa ?_ ?_
 exact zab 0
 refine zaa ?_ ?_
 refine zbF (k:=5) (g:=t.a_14) (fd:=t.d_14) (ps:=["stock","lot"]) ?_ ?_ ?_ ?_ ?_ ?_ ?_
 exact G_14
 exact zca
 exact (hr.mono (by decide))
 exact T.m_14
 exact T.F_14.kp
 exact T.b_14
 refine zaa ?_ ?_
 exact zab 0
 refine zaa ?_ ?_
 exact zab 1
 exact zad
 exact zad
theorem sc_21:zal ["stock","cover"] ["stock","cover"] (zae s_21):=⟨rfl,rfl,rfl,by decide +kernel,rfl,by decide +kernel,by decide +kernel⟩
theorem ok_21 (T:Tx K mg t):zbq P w K mg base (CXE P w) 7 t.a_21 t.d_21 ["stock","cover"] (spE K 2 F_21):=by
 have G_20:=ok_20 (P:=P) (w:=w) (base:=base) T
 refine zdw (k:=6) (G:=G_21) (N:=["stock","cover"]) (ps:=["stock","cover"]) (st:=s_21) T.F_21 sc_21 fun cdv A outer s H E hr=> ?_
 refine zaj ?_
 refine zgi ?_ ?_ ?_
 refine ze0 ?_
 refine zdj ?_
 refine zbF (k:=6) (g:=t.a_20) (fd:=t.d_20) (ps:=["stock","thing"]) ?_ ?_ ?_ ?_ ?_ ?_ ?_
 exact G_20
 exact zca
 exact (hr.mono (by decide))
 exact T.m_20
 exact T.F_20.kp
 exact T.b_20
 refine zaa ?_ ?_
 exact zab 0
 refine zaa ?_ ?_
 exact zab 1
 exact zad
 refine zaj ?_
 exact ziA (c:="NoCover") rfl zgV T.x_exc (by decide +kernel) T.k_4
 exact zbJ
theorem nd_25:(["stock","lot","lesser"]:List Str).Nodup:=by decide +kernel
theorem zto:(["number","lesser"]:List Str).Nodup:=by decide +kernel
theorem sc_25:zal ["stock","lot","lesser"] ["stock","lot"] (zae s_25):=⟨rfl,rfl,rfl,by decide +kernel,rfl,by decide +kernel,by decide +kernel⟩
theorem ok_25 (T:Tx K mg t):zbq P w K mg base (CXE P w) 9 t.a_25 t.d_25 ["stock","lot"] (spE K 2 F_25):=by
 have G_13:=ok_13 (P:=P) (w:=w) (base:=base) T
 have G_24:=ok_24 (P:=P) (w:=w) (base:=base) T
 have G_21:=ok_21 (P:=P) (w:=w) (base:=base) T
 refine zdw (k:=8) (G:=G_25) (N:=["stock","lot","lesser"]) (ps:=["stock","lot"]) (st:=s_25) T.F_25 sc_25 fun cdv A outer s H E hr=> ?_
 refine zag ?_ ?_
 refine zcx ?_
 refine zbF (k:=4) (g:=t.a_13) (fd:=t.d_13) (ps:=["stock","lot"]) ?_ ?_ ?_ ?_ ?_ ?_ ?_
 exact G_13
 exact zca
 exact (hr.mono (by decide))
 exact T.m_13
 exact T.F_13.kp
 exact T.b_13
 refine zaa ?_ ?_
 exact zab 0
 refine zaa ?_ ?_
 exact zab 1
 exact zad
 refine zag ?_ ?_
 refine zaH 2 ?_ ?_
 exact nd_25
 refine zbF (k:=8) (g:=t.a_24) (fd:=t.d_24) (ps:=["stock"]) ?_ ?_ ?_ ?_ ?_ ?_ ?_
 exact G_24
 exact zca
 exact (hr.mono (by decide))
 exact T.m_24
 exact T.F_24.kp
 exact T.b_24
 refine zaa ?_ ?_
 exact zab 0
 exact zad
 refine zag ?_ ?_
 refine zcx ?_
 refine zbF (k:=7) (g:=t.a_21) (fd:=t.d_21) (ps:=["stock","cover"]) ?_ ?_ ?_ ?_ ?_ ?_ ?_
 exact G_21
 exact zca
 exact (hr.mono (by decide))
 exact T.m_21
 exact T.F_21.kp
 exact T.b_21
 refine zaa ?_ ?_
 refine za1 ?_ ?_
 exact zab 2
 exact zai
 refine zaa ?_ ?_
 exact zab 1
 exact zad
 refine zaj ?_
 refine zaN ?_
 refine zaI (T:="tuple") ?_ ?_ ?_ ?_
 exact zay
 exact zaR
 exact T.n_tuple
 refine zaa ?_ ?_
 refine zaQ (N:=["number","lesser"]) ?_ ?_ ?_ ?_ ?_ ?_ ?_
 exact rfl
 exact (BOk.of (Xn:=(zae s_25).names) (XN:=["stock","lot","lesser"]) rfl rfl rfl (by decide +kernel))
 exact (zaA.name (i:=0) rfl)
 refine zbz ?_
 exact zab 1
 intro _ _ _
 exact zah 0 zto
 intro _ _ _
 exact zbx
 intro _ _ _
 refine za1 ?_ ?_
 refine za1 ?_ ?_
 exact zab 1
 exact zai
 exact zab 0
 exact zad
theorem nd_55:(["stock","thing","word","e"]:List Str).Nodup:=by decide +kernel
theorem sc_55:zal ["stock","thing","word","e"] ["stock","thing"] (zae s_55):=⟨rfl,rfl,rfl,by decide +kernel,rfl,by decide +kernel,by decide +kernel⟩
theorem ok_55 (T:Tx K mg t):zbq P w K mg base CX0 10 t.a_55 t.d_55 ["stock","thing"] (zbV K 2 F_55):=by
 have G_54:=ok_54 (P:=P) (w:=w) (base:=base) T
 have G_25:=ok_25 (P:=P) (w:=w) (base:=base) T
 refine zbj (k:=9) (G:=G_55) (N:=["stock","thing","word","e"]) (ps:=["stock","thing"]) (st:=s_55) T.F_55 sc_55 fun cdv A outer s H E hr=> ?_
 refine zag ?_ ?_
 refine zaH 2 ?_ ?_
 exact nd_55
 exact zek
 refine zag ?_ ?_
 refine zrz (CE:=t.a_0) (pe:="e") (k:=1) (fdk:=t.d_54) (fk:=t.a_54) 3 2 ?_ ?_ ?_ ?_ ?_ ?_ ?_ ?_ ?_ ?_
 exact zsR
 exact nd_55
 exact T.g_0
 exact T.x_exc
 exact G_54
 exact T.b_54
 exact T.m_54
 exact T.F_54.kp
 exact (zdR.of (hr.mono (by decide)))
 intro pn xe E' hx
 refine zaj ?_
 refine zcx ?_
 refine zbF (k:=9) (g:=t.a_25) (fd:=t.d_25) (ps:=["stock","lot"]) ?_ ?_ ?_ ?_ ?_ ?_ ?_
 exact G_25
 exact hx
 exact (hr.mono (by decide))
 exact T.m_25
 exact T.F_25.kp
 exact T.b_25
 refine zaa ?_ ?_
 exact zab 0
 refine zaa ?_ ?_
 exact zab 1
 exact zad
 refine zaj ?_
 refine zaN ?_
 exact zab 2
theorem nd_56:(["script","k","box","stock","small","things","offers","whole","drawn","rows","thing","good","due"]:List Str).Nodup:=by decide +kernel
theorem zsf:(["offer","box"]:List Str).Nodup:=by decide +kernel
theorem zqI:(["row","box","small"]:List Str).Nodup:=by decide +kernel
theorem zrW:(["offer","offers"]:List Str).Nodup:=by decide +kernel
theorem sc_56:zal ["script","k","box","stock","small","things","offers","whole","drawn","rows","thing","good","due"] ["script"] (zae s_56):=⟨rfl,rfl,rfl,by decide +kernel,rfl,by decide +kernel,by decide +kernel⟩
theorem ok_56 (T:Tx K mg t):zbq P w K mg base CX0 11 t.a_56 t.d_56 ["script"] (zbV K 1 F_56):=by
 have G_38:=ok_38 (P:=P) (w:=w) (base:=base) T
 have G_50:=ok_50 (P:=P) (w:=w) (base:=base) T
 have G_49:=ok_49 (P:=P) (w:=w) (base:=base) T
 have G_39:=ok_39 (P:=P) (w:=w) (base:=base) T
 have G_53:=ok_53 (P:=P) (w:=w) (base:=base) T
 have G_52:=ok_52 (P:=P) (w:=w) (base:=base) T
 have G_55:=ok_55 (P:=P) (w:=w) (base:=base) T
 have G_25:=ok_25 (P:=P) (w:=w) (base:=base) T
 refine zbj (k:=10) (G:=G_56) (N:=["script","k","box","stock","small","things","offers","whole","drawn","rows","thing","good","due"]) (ps:=["script"]) (st:=s_56) T.F_56 sc_56 fun cdv A outer s H E hr=> ?_
 refine zag ?_ ?_
 refine zf4 ?_ ?_ ?_ ?_ ?_
 exact rfl
 exact PassesOwn.never
 refine zew ?_ ?_
 exact T.n_range
 refine zaa ?_ ?_
 refine zaG (id:="max") ?_ ?_ ?_ ?_
 exact (zgb rfl)
 exact zoa
 exact T.n_max
 refine zaa ?_ ?_
 exact zai
 refine zaa ?_ ?_
 refine zaG (id:="min") ?_ ?_ ?_ ?_
 exact (zjR rfl)
 exact zrH
 exact T.n_min
 refine zaa ?_ ?_
 refine zaG (id:="len") ?_ ?_ ?_ ?_
 exact zav
 exact za5
 exact T.n_len
 refine zaa ?_ ?_
 exact zab 0
 exact zad
 refine zaa ?_ ?_
 exact zai
 exact zad
 exact zad
 exact zad
 exact zah 1 nd_56
 refine zag ?_ ?_
 refine zaH 2 ?_ ?_
 exact nd_56
 refine zaB (k:=2) (g:=t.a_38) (fd:=t.d_38) (ps:=["script","k"]) ?_ ?_ ?_ ?_ ?_ ?_
 exact G_38
 exact (hr.mono (by decide))
 exact T.m_38
 exact T.F_38.kp
 exact T.b_38
 refine zaa ?_ ?_
 exact zab 0
 refine zaa ?_ ?_
 exact zab 1
 exact zad
 refine zag ?_ ?_
 refine zaH 3 ?_ ?_
 exact nd_56
 refine zaB (k:=4) (g:=t.a_50) (fd:=t.d_50) (ps:=["box"]) ?_ ?_ ?_ ?_ ?_ ?_
 exact G_50
 exact (hr.mono (by decide))
 exact T.m_50
 exact T.F_50.kp
 exact T.b_50
 refine zaa ?_ ?_
 exact zab 2
 exact zad
 refine zag ?_ ?_
 refine zgH ?_ ?_
 refine za1 ?_ ?_
 refine zaB (k:=4) (g:=t.a_49) (fd:=t.d_49) (ps:=["stock"]) ?_ ?_ ?_ ?_ ?_ ?_
 exact G_49
 exact (hr.mono (by decide))
 exact T.m_49
 exact T.F_49.kp
 exact T.b_49
 refine zaa ?_ ?_
 exact zab 3
 exact zad
 exact zai
 refine zcE ?_ ?_
 exact rfl
 refine zaD ?_ ?_
 exact zah 4 nd_56
 refine zaD ?_ ?_
 exact zah 5 nd_56
 refine zaD ?_ ?_
 exact zah 6 nd_56
 exact zbL
 refine zag ?_ ?_
 refine zaH 7 ?_ ?_
 exact nd_56
 refine ze8 ?_ ?_ ?_ ?_
 exact rfl
 exact T.n_tuple
 exact T.n_range
 refine zaG (id:="len") ?_ ?_ ?_ ?_
 exact zav
 exact za5
 exact T.n_len
 refine zaa ?_ ?_
 exact zab 6
 exact zad
 refine zag ?_ ?_
 refine zaH 8 ?_ ?_
 exact nd_56
 refine zaI (T:="tuple") ?_ ?_ ?_ ?_
 exact zay
 exact zaR
 exact T.n_tuple
 refine zaa ?_ ?_
 refine zaQ (N:=["offer","box"]) ?_ ?_ ?_ ?_ ?_ ?_ ?_
 exact rfl
 exact (BOk.of (Xn:=(zae s_56).names) (XN:=["script","k","box","stock","small","things","offers","whole","drawn","rows","thing","good","due"]) rfl rfl rfl (by decide +kernel))
 exact (zaA.name (i:=0) rfl)
 refine zbz ?_
 exact zab 7
 intro _ _ _
 exact zah 0 zsf
 intro _ _ _
 refine zbN ?_
 refine zaO ?_ ?_ ?_
 exact zom
 refine zaB (k:=1) (g:=t.a_39) (fd:=t.d_39) (ps:=["box","many"]) ?_ ?_ ?_ ?_ ?_ ?_
 exact G_39
 exact (hr.mono (by decide))
 exact T.m_39
 exact T.F_39.kp
 exact T.b_39
 refine zaa ?_ ?_
 exact zab 1
 refine zaa ?_ ?_
 exact zai
 exact zad
 exact zai
 intro _ _ _
 exact zab 0
 exact zad
 refine zag ?_ ?_
 refine zaH 9 ?_ ?_
 exact nd_56
 refine zct ?_
 refine zaa ?_ ?_
 exact zab 7
 refine zaa ?_ ?_
 exact zab 8
 exact zad
 refine zag ?_ ?_
 refine zaH 9 ?_ ?_
 exact nd_56
 refine zcz ?_ ?_ ?_
 exact zaM
 exact zab 9
 refine zaQ (N:=["row","box","small"]) ?_ ?_ ?_ ?_ ?_ ?_ ?_
 exact rfl
 exact (BOk.of (Xn:=(zae s_56).names) (XN:=["script","k","box","stock","small","things","offers","whole","drawn","rows","thing","good","due"]) rfl rfl rfl (by decide +kernel))
 exact (zaA.name (i:=0) rfl)
 refine zbz ?_
 exact zab 9
 intro _ _ _
 exact zah 0 zqI
 intro _ _ _
 exact zbx
 intro _ _ _
 refine zaB (k:=3) (g:=t.a_53) (fd:=t.d_53) (ps:=["box","stock","lot"]) ?_ ?_ ?_ ?_ ?_ ?_
 exact G_53
 exact (hr.mono (by decide))
 exact T.m_53
 exact T.F_53.kp
 exact T.b_53
 refine zaa ?_ ?_
 exact zab 1
 refine zaa ?_ ?_
 exact zab 2
 refine zaa ?_ ?_
 exact zab 0
 exact zad
 refine zaj ?_
 refine zf4 ?_ ?_ ?_ ?_ ?_
 exact rfl
 exact PassesOwn.never
 refine zbz ?_
 exact zab 9
 exact zah 10 nd_56
 refine zag ?_ ?_
 refine zaH 11 ?_ ?_
 exact nd_56
 refine zaB (k:=3) (g:=t.a_52) (fd:=t.d_52) (ps:=["stock","thing"]) ?_ ?_ ?_ ?_ ?_ ?_
 exact G_52
 exact (hr.mono (by decide))
 exact T.m_52
 exact T.F_52.kp
 exact T.b_52
 refine zaa ?_ ?_
 exact zab 4
 refine zaa ?_ ?_
 exact zab 10
 exact zad
 refine zag ?_ ?_
 refine zgi ?_ ?_ ?_
 refine zaO ?_ ?_ ?_
 exact (zeA (zdl hr))
 refine zaB (k:=10) (g:=t.a_55) (fd:=t.d_55) (ps:=["stock","thing"]) ?_ ?_ ?_ ?_ ?_ ?_
 exact G_55
 exact (hr.mono (by decide))
 exact T.m_55
 exact T.F_55.kp
 exact T.b_55
 refine zaa ?_ ?_
 exact zab 3
 refine zaa ?_ ?_
 exact zab 10
 exact zad
 refine za1 ?_ ?_
 refine zct ?_
 refine zaa ?_ ?_
 exact zek
 refine zaa ?_ ?_
 exact zek
 exact zad
 refine zaI (T:="int") ?_ ?_ ?_ ?_
 exact zeT
 exact zhc
 exact T.n_int
 refine zaa ?_ ?_
 exact zab 11
 exact zad
 refine zaj ?_
 refine zaN ?_
 exact zhZ
 exact zbJ
 refine zaj ?_
 refine zgi ?_ ?_ ?_
 refine zdj ?_
 exact zab 11
 refine zag ?_ ?_
 refine zaH 12 ?_ ?_
 exact nd_56
 refine zaI (T:="tuple") ?_ ?_ ?_ ?_
 exact zay
 exact zaR
 exact T.n_tuple
 refine zaa ?_ ?_
 refine zaQ (N:=["offer","offers"]) ?_ ?_ ?_ ?_ ?_ ?_ ?_
 exact rfl
 exact (BOk.of (Xn:=(zae s_56).names) (XN:=["script","k","box","stock","small","things","offers","whole","drawn","rows","thing","good","due"]) rfl rfl rfl (by decide +kernel))
 exact (zaA.name (i:=0) rfl)
 refine zbz ?_
 exact zab 10
 intro _ _ _
 exact zah 0 zrW
 intro _ _ _
 exact zbx
 intro _ _ _
 refine za1 ?_ ?_
 exact zab 1
 exact zab 0
 exact zad
 refine zaj ?_
 refine zgi ?_ ?_ ?_
 refine zaO ?_ ?_ ?_
 exact (zeA (zdl hr))
 refine zbF (k:=9) (g:=t.a_25) (fd:=t.d_25) (ps:=["stock","lot"]) ?_ ?_ ?_ ?_ ?_ ?_ ?_
 exact G_25
 exact zie
 exact (hr.mono (by decide))
 exact T.m_25
 exact T.F_25.kp
 exact T.b_25
 refine zaa ?_ ?_
 exact zab 3
 refine zaa ?_ ?_
 exact zab 10
 exact zad
 exact zab 12
 refine zaj ?_
 refine zaN ?_
 exact zhZ
 exact zbJ
 exact zbJ
 refine zaj ?_
 refine zaN ?_
 exact zhZ
end
end K63
namespace L3
open PySem PySem.Spec PyProof.Rows L2 LT
section
theorem zjI {i j:Int} (h0:0<j) (h1:j<2^100):zfS [.int i,.int j]=pure (.tup [.int (i / j),.int (i % j)]):=by
 unfold zfS
 simp only
 rw [qa4 ⟨h0,h1⟩]
theorem zg1 {i j:Int} (h:(zbi i || zbi j || zhI i j)=true):zgT (.int i) (.int j)=pure (.int (i*j)):=by
 show (if (zbi i || zbi j || zhI i j)=true then _ else _)=_
 rw [qa4 h]
theorem zkj {i j:Int} (h: -1000000000000000<i) (h':i<1000000000000000):zgT (.int i) (.int j)=pure (.int (i*j)):=zg1 (by rw [zgD h h'];rfl)
theorem zkE {i j:Int} (h: -1000000000000000<j) (h':j<1000000000000000):zgT (.int i) (.int j)=pure (.int (i*j)):=zg1 (by rw [zgD h h'];simp)
theorem zoR {x:Int} {n:Nat} (h:x.natAbs<2^n):Builtin.Int.intBits x<=n:=by
 unfold Builtin.Int.intBits
 split
 ·exact Nat.zero_le _
 ·rename_i c
  have h0:x.natAbs≠0:=fun z=>c (by simp;omega)
  exact (Nat.log2_lt h0).mpr h
theorem ziG {x:Int} {n:Nat} (h:Builtin.Int.intBits x<=n):x.natAbs<2^n:=by
 unfold Builtin.Int.intBits at h
 split at h
 ·rename_i c
  have:x=0:=by simpa using c
  subst this
  exact Nat.pow_pos (by decide)
 ·rename_i c
  have h0:x.natAbs≠0:=fun z=>c (by simp;omega)
  exact (Nat.log2_lt h0).mp h
theorem zmv {c k:Int} {n:Nat} (h:Builtin.Int.intBits c<=n) (k0:0<=k) (k1:k<24):Builtin.Int.intBits ((c+1)*40692+104729*k)<=n+22:=by
 refine zoR ?_
 have h1:=ziG h
 rw [Nat.pow_add]
 generalize 2^n=B at h1
 have:(2:Nat)^22=4194304:=rfl
 rw [this]
 omega
theorem zr2:zoK (.int 10) (.int 20)=pure (.int 100000000000000000000):=by
 unfold zoK dII
 simp only
 rw [qa4 (by decide)]
 rfl
theorem zlY {n:Nat}:zbo [.cel n]=(do let ds<-zar n;pure (.tup ds)):=rfl
end
section
noncomputable def pdO (o:List Int×Int):PyData:= .tuple [.tuple (o.1.map PyData.int),.int o.2]
theorem zis: ∀ os:List (List Int×Int),pdL (os.map zbt)=some (os.map pdO)
 | []=>rfl
 | o::r=>by
  rw [qaM,pdL,zis r]
  simp only [zbt,tI,pd,pdL,zbv,Option.map,pdO,qaM]
theorem zgB: ∀ os:List (List Int×Int),PyData.canLayAll0 (os.map pdO)=true
 | []=>rfl
 | o::r=>by simp [PyData.canLayAll0,PyData.canLay0,zaP,zgB r,pdO]
theorem znJ (os:List (List Int×Int)):dEq (.lst (os.map zbt)) (.lst [])=pure (.bl os.isEmpty):=by
 have e1:pd (.lst (os.map zbt))=some (.list (os.map pdO)):=by unfold pd;rw [zis];rfl
 have e2:pd (.lst [])=some (.list []):=rfl
 rw [zkp e1 e2 (by unfold zg9;simp [PyData.canLay0,PyData.canLayAll0,zgB,PyData.depth,PyData.depthAll])]
 cases os<;>rfl
theorem zl0 (os:List (List Int×Int)):PyData.depthAll (os.map pdO)<=2:=by
 induction os with
 | nil=>simp [PyData.depthAll]
 | cons o r ih=>
  rw [qaM]
  simp only [PyData.depthAll,PyData.depth,zaX,pdO]
  omega
theorem zjf: ∀ os:List (List Int×Int),PyData.eqvAll (os.map pdO) (os.map pdO)=true
 | []=>rfl
 | o::r=>by
  rw [qaM]
  simp [PyData.eqvAll,PyData.eqv,pdO,zcD,zjf r]
theorem zhM {x y:D} {a b:PyData} (e1:pd x=some a) (e2:pd y=some b) (h:zg9 a b=true):dNe x y=pure (.bl (!PyData.eqv a b)):=by
 show zlL true x y=_
 unfold zlL
 rw [e1,e2]
 simp only [h,if_true]
theorem zhT {α:Type} {g':α->D} {f:D->M (Option D)} {k:α->Option D}: ∀ {xs:List α},(∀ x∈xs,f (g' x)=pure (k x))->zdi f (xs.map g')=pure (xs.filterMap k)
 | [],_=>rfl
 | x::r,hf=>by
  rw [qaM,zdi,hf x qau,zhT fun y hy=>hf y (qan _ hy)]
  simp only [pure_bind]
  cases e:k x<;>simp [qat,e]
theorem zax {α:Type} {g':α->D} {fi:FA} {g:D->Sd->M Sd} {tc:FT} {te:FE} {src:List (Option Nat)} {sd:Sd} {xs:List α} {k:α->Option D} (hi:fi sd=pure (xs.map g')) (hl:xs.length<=1000) (hf: ∀ x∈xs,za2 g tc te (zaq src sd) (g' x)=pure (k x)):zao fi g tc te src sd=pure (.lst (xs.filterMap k)):=by
 unfold zao
 rw [hi]
 simp only [pure_bind]
 rw [zaL (by rw [qaH];exact hl)]
 simp only [pure_bind]
 rw [zhT hf]
 simp only [pure_bind]
theorem zaE {α:Type} {p:α->Bool} {g:α->D}: ∀ xs:List α,xs.filterMap (fun x=>if p x=true then some (g x) else none)=(xs.filter p).map g
 | []=>rfl
 | x::r=>by
  rw [qat,List.filter_cons,zaE r]
  cases p x<;>simp
end
section
noncomputable def Rul (S:Nat->Nat->Bool) (b one:Nat):Bool:=S one b && (decide (b<one) || !S b one)
noncomputable def zkh (S:Nat->Nat->Bool) (n one:Nat):Option D:=match (List.range n).filter fun b=>Rul S b one with
 | []=>none
 | b::_=>some (.tup [.int (one:Int),.int (b:Int)])
noncomputable def zid (S:Nat->Nat->Bool) (n:Nat):List D:=(List.range n).filterMap (zkh S n)
noncomputable def zi8 (S:Nat->Nat->Bool) (n:Nat):D:= .lst ((List.range n).map fun i=> .lst ((List.range n).map fun j=> .bl (S i j)))
theorem zoj {S:Nat->Nat->Bool} {n i j:Nat} (hi:i<n) (hj:j<n):atI ((List.range n).map fun i=>D.lst ((List.range n).map fun j=> .bl (S i j))) (i:Int)=some (.lst ((List.range n).map fun j=> .bl (S i j)))/\atI ((List.range n).map fun j=>D.bl (S i j)) (j:Int)=some (.bl (S i j)):=
 ⟨zd6 (by simp [hi]),zd6 (by simp [hj])⟩
theorem ziX {α β:Type} (d:α) (f:α->β) (xs:List α):xs.map f=(List.range xs.length).map fun i=>f (xs.getD i d):=by
 refine List.ext_getElem (by simp) fun i h1 h2=> ?_
 simp at h1
 simp [List.getD,h1]
theorem zi4 {n:Nat} {h:Hh} {ds:List D} {P:D->Hh->Prop} (e:h[n]? = some (.lst ds)) (k:P (.lst ds) (h.set n .dead)):wp (zpb (.cel n)) h P:=by
 refine ⟨.lst ds,h.set n .dead,?_,k⟩
 unfold zpb
 simp only
 rw [e]
theorem zeo {h:Hh} {c c':C}:(h++[c]).set h.length c'=h++[c']:=by
 rw [List.set_append_right _ _ (qaV _)]
 simp
theorem zgF {h:Hh} {n:Nat} {c:C} (e:h[n]? = some c):h.set n c=h:=by
 refine List.ext_getElem? fun j=> ?_
 by_cases hj:n=j
 ·subst hj
  rw [qai (qac.mp e).1,e]
 ·rw [qao hj]
theorem zdJ (xs:List Int):dNe (.lst (xs.map D.int)) (.lst [])=pure (.bl (!xs.isEmpty)):=by
 have e1:pd (.lst (xs.map D.int))=some (.list (xs.map PyData.int)):=by unfold pd;rw [zbv];rfl
 have e2:pd (.lst [])=some (.list []):=rfl
 rw [zhM e1 e2 (by unfold zg9;simp [PyData.canLay0,PyData.canLayAll0,zaP,PyData.depth,PyData.depthAll,zaX])]
 cases xs<;>rfl
theorem zqe (xs ys:List Int):dNe (.lst (xs.map D.int)) (.lst (ys.map D.int))=pure (.bl (!(xs==ys))):=by
 have e1:pd (.lst (xs.map D.int))=some (.list (xs.map PyData.int)):=by unfold pd;rw [zbv];rfl
 have e2:pd (.lst (ys.map D.int))=some (.list (ys.map PyData.int)):=by unfold pd;rw [zbv];rfl
 rw [zhM e1 e2 (by unfold zg9;simp [PyData.canLay0,zaP,PyData.depth,zaX])]
 simp only [PyData.eqv,zcD]
noncomputable def inB (xs ys:List Int):Bool:=xs.all fun x=>ys.any (· == x)
theorem zdF {xs ys:List Int}:inB xs ys=true↔ ∀ x∈xs,x∈ys:=by
 unfold inB
 simp [List.all_eq_true]
theorem zgk {xs ys:List Int}:(xs.filter fun x=> !ys.any (· == x)).isEmpty=inB xs ys:=by
 rw [Bool.eq_iff_iff,List.isEmpty_iff,List.filter_eq_nil_iff]
 unfold inB
 simp
theorem zn2 {xs ys:List Int} (hx:xs.Pairwise (· < ·)) (hy:ys.Pairwise (· < ·)) (h:inB xs ys=true):inB ys xs=(ys==xs):=by
 rw [Bool.eq_iff_iff,beq_iff_eq]
 constructor
 ·intro h2
  exact zmX hy hx fun k=>⟨fun z=>zdF.mp h2 k z,fun z=>zdF.mp h k z⟩
 ·rintro rfl
  exact zdF.mpr fun _ z=>z
end
section
theorem znH {F0 F1:List D->M D}:zhB [F0,F1] (.int 0)=pure F0:=rfl
theorem zmw {F0 F1:List D->M D}:zhB [F0,F1] (.int 1)=pure F1:=rfl
theorem zhp (k:Int) (xs:List Int):zd0 (.int k) (.tup (xs.map D.int))=pure (.bl (!xs.any (· == k))):=by
 show zke true (.int k) (.tup (xs.map D.int))=_
 unfold zke
 simp only [pd]
 rw [zbv]
 have c:zjX (.int k) (xs.map PyData.int)=true:=by
  unfold zjX
  simp [PyData.canLay0,zaP,PyData.depth,zaX]
 simp only [c,if_true,zez]
theorem zmt (xs:List Nat):dNe (.lst (xs.map fun (b:Nat)=> .int (b:Int))) (.lst [])=pure (.bl (!xs.isEmpty)):=by
 have:=zdJ (xs.map fun (b:Nat)=>(b:Int))
 rw [qaT] at this
 rw [show (fun (b:Nat)=>D.int (b:Int))=D.int∘(fun (b:Nat)=>(b:Int)) from rfl,this]
 cases xs<;>rfl
end
section
theorem zix {n:Nat} {tc:FT} {gb:FS} {sd:Sd}:zeC tc gb (n+1) sd=(do let b<-tc sd;if b=true then (do let o<-gb sd;match o with | .nx sd'=>zeC tc gb n sd' | .ct sd'=>zeC tc gb n sd' | .bk sd'=>pure (.nx sd') | .rt d=>pure (.rt d)) else pure (.nx sd)):=rfl
theorem zoD {n:Nat}:zdn [.cel n]=(do let ds<-zar n;pure (.int ds.length)):=rfl
end
section
theorem zkk (k:Int) (xs:List Int):dIn (.int k) (.lst (xs.map D.int))=pure (.bl (xs.any (· == k))):=by
 show zke false (.int k) (.lst (xs.map D.int))=_
 unfold zke
 simp only [pd]
 rw [zbv]
 have c:zjX (.int k) (xs.map PyData.int)=true:=by
  unfold zjX
  simp [PyData.canLay0,zaP,PyData.depth,zaX]
 simp only [c,if_true,zez]
 rfl
noncomputable def cI (xs:List Nat):List Int:=xs.map fun (j:Nat)=>(j:Int)
theorem zgu (xs:List Nat):(cI xs).length=xs.length:=qaH _
theorem zcw (xs:List Nat):(cI xs).map D.int=xs.map fun (j:Nat)=> .int (j:Int):=by
 unfold cI
 rw [qaT]
 rfl
theorem znT {xs:List Nat} {k:Nat}:(cI xs).any (· == (k:Int))=xs.any (· == k):=by
 unfold cI
 rw [List.any_map]
 refine congrArg (fun f=>xs.any f) (funext fun j=> ?_)
 show ((j:Int)==(k:Int))=(j==k)
 rw [Bool.eq_iff_iff,beq_iff_eq,beq_iff_eq]
 omega
theorem zgy {xs:List Nat} {k:Nat}:xs.any (· == k)=true↔k∈xs:=by
 rw [List.any_eq_true]
 constructor
 ·rintro ⟨x,hx,e⟩
  rw [beq_iff_eq] at e
  exact e▸hx
 ·intro h
  exact ⟨k,h,by simp⟩
theorem zeq {n:Nat} (h:n<1000):zcv (.int (n:Int))=pure (.lst ((cI (List.range n)).map D.int)):=by
 show (if 0<=(n:Int)/\(n:Int)<1000 then (pure (.lst (ze6 0 ((n:Int)).toNat)):M D) else M.bad)=_
 rw [qa4 ⟨by omega,by omega⟩,qaB,zbp]
 rfl
end
section
theorem zgQ {α:Type} {xs:List α} {x:α}:atI (xs++[x]) (-1)=some x:=by
 have e:ixN (xs++[x]).length (-1)=some xs.length:=by
  unfold ixN
  rw [qa5 (by omega),qa4 (by rw [qav,List.length_singleton];omega),qav,List.length_singleton]
  congr 1
  omega
 unfold atI
 rw [e]
 simp
theorem zfd {xs:List Int} {j:Nat} (h:j<xs.length):atI (xs.map D.int) (j:Int)=some (.int (xs.getD j 0)):=zd6 (by simp [List.getD,h])
theorem zff {α:Type} {xs:List α} {d:α}:(List.range xs.length).map (fun j=>xs.getD j d)=xs:=by
 refine List.ext_getElem (by simp) fun i h1 h2=> ?_
 simp [List.getD,h2]
theorem zgs {xs:List Int} {js:List Nat} (hx:xs.Nodup) (hj:js.Pairwise (· < ·)) (hb: ∀ j∈js,j<xs.length):(js.map fun j=>xs.getD j 0).Nodup:=by
 unfold List.Nodup
 rw [List.pairwise_map]
 refine List.Pairwise.imp_of_mem (fun {a b} ha hb' hlt e=> ?_) hj
 have h1:=hb a ha
 have h2:=hb b hb'
 simp only [List.getD,qaf h1,qaf h2,Option.getD_some] at e
 exact (List.pairwise_iff_getElem.mp hx a b h1 h2 hlt) e
end
section
def Kp (N:Nat) (h h':Hh):Prop:=N<=h'.length/\ ∀ k,k<N->h'[k]? = h[k]?
theorem Kp.gro {h h':Hh} (k:Kp h.length h h'):Gro h h':=by
 refine ⟨h'.drop h.length,List.ext_getElem? fun j=> ?_⟩
 by_cases hj:j<h.length
 ·rw [qad hj,k.2 j hj]
 ·rw [qaa (by omega),List.getElem?_drop]
  congr 1
  omega
noncomputable def zgL (xs ys:List Int):List Int:=xs.filter fun x=> !ys.any (· == x)
theorem zhV {xs:List Int} {J:List Nat} (hx:xs.Nodup) (hJ: ∀ j∈J,j<xs.length):((List.range xs.length).filter fun j=> !J.any (· == j)).map (fun j=>xs.getD j 0)=zgL xs (J.map fun j=>xs.getD j 0):=by
 have e:xs=(List.range xs.length).map fun j=>xs.getD j 0:=zff.symm
 have key: ∀ ys:List Int,zgL xs ys=((List.range xs.length).filter fun j=> !ys.any (· == xs.getD j 0)).map fun j=>xs.getD j 0:=fun ys=>by
  unfold zgL
  conv=>lhs;rw [e]
  rw [List.filter_map]
  rfl
 rw [key]
 congr 1
 refine List.filter_congr fun j hj=> ?_
 have hj:=List.mem_range.mp hj
 congr 1
 rw [Bool.eq_iff_iff,zgy,List.any_eq_true]
 constructor
 ·intro h
  exact ⟨xs.getD j 0,qaU.mpr ⟨j,h,rfl⟩,by simp⟩
 ·rintro ⟨z,hz,ez⟩
  obtain ⟨k,hk,rfl⟩:=qaU.mp hz
  have hkl:=hJ k hk
  rw [beq_iff_eq] at ez
  simp only [List.getD,qaf hkl,qaf hj,Option.getD_some] at ez
  rcases Nat.lt_trichotomy k j with h | h | h
  ·exact absurd ez (List.pairwise_iff_getElem.mp hx k j hkl hj h)
  ·exact h▸hk
  ·exact absurd ez.symm (List.pairwise_iff_getElem.mp hx j k hj hkl h)
end
section
end
section
theorem zrS (xs ys:List Int):dNe (tI xs) (tI ys)=pure (.bl (!(xs==ys))):=by
 rw [zhM (zlz xs) (zlz ys) (by unfold zg9;simp [PyData.canLay0,zaP,PyData.depth,zaX])]
 simp only [PyData.eqv,zcD]
theorem zkS (x y:Str) (hx:PyData.strOk x=true) (hy:PyData.strOk y=true):dNe (.str x) (.str y)=pure (.bl (!(x==y))):=by
 rw [zhM (x:= .str x) (y:= .str y) rfl rfl (by unfold zg9;simp [PyData.canLay0,PyData.depth,hx,hy])]
 rfl
theorem znS:PyData.strOk "told"=true:=by decide +kernel
theorem zkF:PyData.strOk "cover"=true:=by decide +kernel
end
end L3
namespace K63
open PySem PySem.Spec PyProof.Rows L2 L3 LT
set_option hygiene false in
local macro_rules | `(tactic| ac_nf0)=> `(tactic| simp only [zbl,zcF,zoC,zce,ziC,ziV,zil,zfK,zcm,zbm,zbM,ze7,zm7,zgU,zaY,zbe,pure_bind,bind_assoc,zhE,zti,zht,zss,List.set,zgl,ziW,zjd,zsK,zqg,zlu,zt8,zlv,ztE,zk6,zi6,zg3,zdB,ziM,zcI,zpB,zfp,zuc,zo3,zqw,zuk,zir,zrv,zrs,zr8,ztZ,zsv,zi1,zfB,zki,zjt,zk4,znZ,zsY,zas,zam,zjA,qaE,qaJ,qaH,Nat.zero_add,Nat.reduceAdd,Nat.reduceLeDiff,zaL,zbt,tI,zlT,zoI,znB,zq3,znu,zgp,znh,ztm,zo9,zo4,zsG,ztd,ztf,ztU,zqC,zqJ,zob,zub,ztI,zuG,if_true,Bool.not_true,Bool.not_false,qax,if_false,qav,List.cons_append,List.nil_append,zsV,zsw])
variable {m:Int} {os:List (List Int×Int)} {i:Nat}
theorem zbh {h:Hh} {b:Nat} {m:Int} {P:D->Hh->Prop} (q:Bx b h) (h0:0<m) (h1:m<2^100) (k: ∀ t h',0<=t->t<m->Ext b h h'->P (.int t) h'):wp (F_39 [.cel b,.int m]) h P:=by
 obtain ⟨z,e⟩:=id q
 rw [d_39]
 have e2:ixN ([D.int z]:List D).length 0=some 0:=rfl
 simp only [G_39,zbl,zoC,zcm,zbm,zbM,ze7,zaY,zbe,pure_bind,bind_assoc,zgU,znE,zas,zbd e,zqw,zir,zam,zjI h0 h1,zki,zjt,zfB,zk4,zhE,List.set,zpo,zsz,e2,zdW,zce,zht]
 exact k _ _ (Int.emod_nonneg _ (by omega)) (Int.emod_lt_of_pos _ h0) q.set
theorem zpT {ns:List Int} {k:Int} (h0:0<=k) (h1:k<6) (hb: ∀ i∈ns,Builtin.Int.intBits i<=2^20): ∃ c:Int,F_36 [.scr (ns.map D.int),.int k]=pure (.int c)/\Builtin.Int.intBits c<=2^20:=by
 rw [d_36]
 simp only [G_36,zbl,ziC,zgl,zbe,zaY,pure_bind,bind_assoc,zcm,zbm,zbM,zow,zpP,zdB]
 by_cases hk:k<((ns.map D.int).length:Int)
 ·have hk':k.toNat<ns.length:=by simp at hk;omega
  have ea:atI (ns.map D.int) k=some (.int ns[k.toNat]):=by
   have:=zd6 (xs:=ns.map D.int) (j:=k.toNat) (v:= .int ns[k.toNat]) (by simp [hk'])
   rw [<- this]
   congr 1
   omega
  simp only [hk,decide_true,if_true,zce,ze7,zaY,zbe,pure_bind,zt6,ea,zir,zti,zht]
  exact ⟨_,rfl,hb _ (List.getElem_mem hk')⟩
 ·simp only [hk,decide_false,qax,if_false,zfK,pure_bind,zhE,zce,ze7,zgU,zbe,zaY,zqN (show (-1000000000000000:Int)<6151 by decide) (show (6151:Int)<1000000000000000 by decide),zfp,zht]
  exact ⟨_,rfl,qaS (intBits_le_64 (by omega) (by omega)) (by decide)⟩
theorem zqE {c k:Int} (hc:Builtin.Int.intBits c<=2^20) (k0:0<=k) (k1:k<24): ∃ r:Int,F_37 [.int c,.int k]=pure (.int r):=by
 rw [d_37]
 have hm:zhI ((c+1)*40692+104729*k) ((c+1)*40692+104729*k)=true:=by
  have:=zmv hc k0 k1
  unfold zhI
  rw [qaD]
  have e1:(2:Nat)^20=1048576:=rfl
  have e2:(2:Nat)^26=67108864:=rfl
  rw [e1] at this
  rw [e2]
  omega
 have n0:=Int.emod_nonneg (((c+1)*40692+104729*k)*((c+1)*40692+104729*k)) (show (2147483399:Int)≠0 by decide)
 have n1:=Int.emod_lt_of_pos (((c+1)*40692+104729*k)*((c+1)*40692+104729*k)) (show (0:Int)<2147483399 by decide)
 simp only [G_37,zbl,zcF,ze7,zaY,zbe,zgU,zfp,pure_bind,bind_assoc,zkE (show (-1000000000000000:Int)<40692 by decide) (show (40692:Int)<1000000000000000 by decide),zkj (show (-1000000000000000:Int)<104729 by decide) (show (104729:Int)<1000000000000000 by decide),
   zhE,List.set,zg1 (show (zbi ((c+1)*40692+104729*k) || zbi ((c+1)*40692+104729*k) || zhI ((c+1)*40692+104729*k) ((c+1)*40692+104729*k))=true by rw [hm];simp),ziJ (show (0:Int)<2147483399 by decide),zce]
 generalize hN:((c+1)*40692+104729*k)*((c+1)*40692+104729*k) % 2147483399=N at n0 n1
 simp only [zkj (i:=N+k) (show -1000000000000000<N+k by omega) (show N+k<1000000000000000 by omega),pure_bind,ziJ (show (0:Int)<2147483563 by decide),zht]
 exact ⟨_,rfl⟩
theorem ziU {s0 s1:Option D} {c:Int} (hc:Builtin.Int.intBits c<=2^20): ∀ (ds:List D) (n:Int) (x4:Option D),(∀ d∈ds, ∃ j:Int,d= .int j/\0<=j/\j<24)->
  ∃ (n':Int) (x4':Option D),zbc (fun x sd=>do let sd1<-zaw 4 x sd;zdr sd1) ds [s0,s1,some (.int c),some (.int n),x4]=pure (.nx [s0,s1,some (.int c),some (.int n'),x4'])
 | [],n,x4,_=>⟨n,x4,rfl⟩
 | d::r,n,x4,hd=>by
  obtain ⟨j,rfl,j0,j1⟩:=hd _ qau
  obtain ⟨mx,em⟩:=zqE hc j0 j1
  obtain ⟨n',x4',ih⟩:=ziU hc r (n*2147483647+mx) (some (.int j)) (fun y hy=>hd y (qan _ hy))
  refine ⟨n',x4',?_⟩
  rw [zcr, <-ih]
  simp only [zdr,zfB,List.set,pure_bind,bind_assoc,zcF,ze7,zbe,zaY,zgU,zkE (i:=n) (show (-1000000000000000:Int)<2147483647 by decide) (show (2147483647:Int)<1000000000000000 by decide),zcm,zbm,zbM,zcI,em,zfp]
theorem zrT {h:Hh} {ns:List Int} {k:Int} {P:D->Hh->Prop} (hb: ∀ i∈ns,Builtin.Int.intBits i<=2^20) (k0:0<=k) (k6:k<6) (q: ∀ z:Int,P (.cel h.length) (h++[.lst [.int z]])):wp (F_38 [.scr (ns.map D.int),.int k]) h P:=by
 obtain ⟨c,ec,hc⟩:=zpT k0 k6 hb
 rw [d_38]
 simp only [G_38,zbl,zcF,zcm,zbm,zbM,zaY,zbe,pure_bind,bind_assoc,zcI,ec,zhE,List.set,ziC,zgl,ze7,zgU,ziJ (show (0:Int)<2 by decide),zn6,zdB]
 by_cases hc2:(c % 2==0)=true
 ·simp only [hc2,if_true,zce,zg3,zbm,zbM,ze7,zbe,zaY,zgU,pure_bind,bind_assoc,zmD (show (0:Int)<2 by decide) (show (2:Int)<2^64 by decide),qaE,qaJ,zaL (show 0+1<=1000 by decide),zas,zjA,zam,zti,zht]
  exact q _
 ·obtain ⟨n',x4',el⟩:=ziU (s0:=some (.scr (ns.map D.int))) (s1:=some (.int k)) hc (ze6 0 24) 0 none (fun d hd=>by
    obtain ⟨i,e,i0,i1⟩:=zlN hd
    exact ⟨i,e,i0,by omega⟩)
  have er:zlj [.int 24]=pure (ze6 0 24):=zbQ (by decide) (by decide)
  simp only [hc2,if_false,zfK,pure_bind,zhE,zbl,zcF,zgU,List.set,zbe,zaY,ziV,zi1,zbm,zbM,er,bind_assoc,el,zce,zg3,qaE,qaJ,zaL (show 0+1<=1000 by decide),zas,zjA,zam,zht,qax]
  exact q _
theorem zd8 (xs:List Int):dEq (.lst (xs.map D.int)) (.lst [])=pure (.bl xs.isEmpty):=by
 have:=ziK xs []
 rw [List.map_nil] at this
 rw [this]
 cases xs<;>rfl
def Go (m:Int) (o:List Int×Int):Prop:=o.1.Pairwise (· < ·)/\(∀ x∈o.1,0<=x/\x<m)/\o.1≠[]/\0<o.2
theorem zjW {b:Nat} {full:Int} (i:Int) {h:Hh} {Q:Option D->Hh->Prop} (q:Bx b h) (k: ∀ o h',Ext b h h'->(o=none\/o=some (.int i))->Q o h'):
  wp (za2 (zaw 0) zcQ zcX [none,some (.cel b),some (.int full)] (.int i)) h Q:=by
 simp only [za2,zfB,List.set,pure_bind,zcQ,zgl,zcm,zbm,zbM,zbe,zaY,zgU,bind_assoc,zcI,zas]
 refine zbh q (by decide) (by decide) fun t h2 t0 t1 x2=> ?_
 simp only [ztj,zam,zdB]
 rw [zkx]
 split
 ·simp only [zcX,zaY,pure_bind,zam]
  exact k _ _ x2 (.inr rfl)
 ·rw [zam]
  exact k _ _ x2 (.inl rfl)
theorem zga {b n:Nat} {m kind full:Int} {s1 s2:Option D} {N:Nat} (hN:N<=12) (hnb:n≠b) (m0:1<=m) (m1:m<=10) (k0:0<kind) (k1:kind<2^100): ∀ (ds:List D) {h:Hh} {x7 x8:Option D} {os:List (List Int×Int)} {P:Out->Hh->Prop},Bx b h->h[n]? = some (.lst (os.map zbt))->(∀ o∈os,Go m o)->os.length+ds.length<=N->
  (∀ (x7' x8':Option D) (os':List (List Int×Int)) (h':Hh),Bx b h'->h'[n]? = some (.lst (os'.map zbt))->(∀ o∈os',Go m o)->os'.length<=N->P (.nx [some (.cel b),s1,s2,some (.int m),some (.int kind),some (.int full),some (.cel n),x7',x8']) h')->
  wp (zbc (fun x sd=>do let sd1<-zaw 7 x sd;zbC sd1) ds [some (.cel b),s1,s2,some (.int m),some (.int kind),some (.int full),some (.cel n),x7,x8]) h P
 | [],h,x7,x8,os,P,q,e,ho,hl,k=>by
  rw [zcy,zam]
  exact k _ _ os h q e ho (by simpa using hl)
 | d::r,h,x7,x8,os,P,q,e,ho,hl,k=>by
  have ih: ∀ {h:Hh} {x7 x8:Option D} {os:List (List Int×Int)},Bx b h->h[n]? = some (.lst (os.map zbt))->(∀ o∈os,Go m o)->os.length+r.length<=N->
   wp (zbc (fun x sd=>do let sd1<-zaw 7 x sd;zbC sd1) r [some (.cel b),s1,s2,some (.int m),some (.int kind),some (.int full),some (.cel n),x7,x8]) h P:=fun q e ho hl=>zga hN hnb m0 m1 k0 k1 r q e ho hl k
  rw [zcr]
  generalize zbc (fun x sd=>do let sd1<-zaw 7 x sd;zbC sd1) r=rest at ih ⊢
  have eb:zaq [none,some 0,some 5] [some (.cel b),s1,s2,some (.int m),some (.int kind),some (.int full),some (.cel n),some d,x8]=[none,some (D.cel b),some (.int full)]:=rfl
  simp only [zfB,List.set,pure_bind,zbC,zbl,zcF,zas]
  unfold zao
  simp only [zi1,zbm,zbM,zbe,zaY,pure_bind,zbQ (show 0<=m by omega) (show m<1000 by omega),zas,zkA,zaL (show m.toNat<=1000 by omega),zam,eb]
  rw [zbp]
  refine ziv (fun i {h Q} q k=>zjW i q k) _ q fun ys h2 x2 hys=> ?_
  have hyu:=(zdz m.toNat).sublist hys
  have hyb: ∀ x∈ys,0<=x/\x<m:=fun x hx=>by have:=zfm x (hys.subset hx);omega
  have fin: ∀ (zs:List Int) (h3:Hh),(zs.Pairwise (· < ·)/\(∀ x∈zs,0<=x/\x<m)/\zs≠[])->Ext b h h3->wp ((zbk (zaf 6) (zcT (zac (zaz zbo (zac (zaf 8) zak)) (zac (cOp zdo (cK (.int 1)) (zaz (zap 2 F_39) (zac (zaf 0) (zac (zaf 4) zak)))) zak)))) [some (.cel b),s1,s2,some (.int m),some (.int kind),some (.int full),some (.cel n),some d,some (.lst (zs.map D.int))]) h3
    fun _ h4=>wp (rest [some (.cel b),s1,s2,some (.int m),some (.int kind),some (.int full),some (.cel n),some d,some (.lst (zs.map D.int))]) h4 P:=fun zs h3 hz x3=>by
   have e3:=x3.2 n _ hnb e
   simp only [zbk,zck,zbe,zaY,pure_bind,bind_assoc,zas,zbd e3,zk6,zbm,zbM,zcm,znZ,ze7,zgU,zcI,zam]
   refine zbh x3.1 k0 k1 fun t h4 t0 t1 x4=> ?_
   have e4:=x4.2 n _ hnb e3
   simp only [zfp,pure_bind,zam,zas,qaE,qaJ,zaL (show 0+1+1<=1000 by decide),zbr,zbd e4,qaH,zaL (show os.length+1<=1000 by simp at hl;omega),zdW]
   have hlt:n<h4.length:=(qac.mp e4).1
   refine ih (os:=os++[(zs,1+t)]) ?_ (by rw [qai hlt];simp [zbt,tI]) ?_ ?_
   ·obtain ⟨y,ey⟩:=x4.1
    exact ⟨y,by rw [qao hnb];exact ey⟩
   ·intro o hmem
    rcases qaK.mp hmem with w | w
    ·exact ho o w
    ·simp at w
     subst w
     exact ⟨hz.1,hz.2.1,hz.2.2,by show (0:Int)<1+t;omega⟩
   ·simp at hl ⊢
    omega
  simp only [zam,zhE,List.set,zbl,ziC,zgl,zbe,zaY,pure_bind,zi6,zbM,qaJ,zaL (show 0<=1000 by decide),zd8,zdB,bind_assoc,zas]
  rw [zkx]
  split
  ·simp only [zcF,zi6,zbm,zbM,zcm,zbe,zaY,pure_bind,bind_assoc,zcI,zas]
   refine zbh x2.1 (by omega) (by omega) fun t h3 t0 t1 x3=> ?_
   simp only [zam,pure_bind,zas,qaE,qaJ,zaL (show 0+1<=1000 by decide),List.set,zhE,zil]
   exact zeM (fin [t] h3 ⟨by simp,by simp;omega,by simp⟩ (x2.trans x3)) fun _ _ z=>z
  ·rename_i hne
   simp only [zfK,zam,zhE,zil,zas]
   exact zeM (fin ys h2 ⟨hyu,hyb,fun z=>hne (by rw [z];rfl)⟩ x2) fun _ _ z=>z
theorem zmR {h:Hh} {b:Nat} {mt mo:Int} {P:D->Hh->Prop} (q:Bx b h) (t0:1<=mt) (t1:mt<=10) (o0:0<=mo) (o1:mo<=12) (k: ∀ (m:Int) (os:List (List Int×Int)) h',Bx b h'->1<=m->m<=mt->(os.length:Int)<=mo->(∀ o∈os,Go m o)->P (zaK m os) h'):wp (F_40 [.cel b,.int mt,.int mo]) h P:=by
 rw [d_40]
 simp only [G_40,zbl,zcF,ze7,zgU,zcm,zbm,zbM,zaY,zbe,pure_bind,bind_assoc,zcI,zas]
 refine zbh q (by omega) (by omega) fun t h2 t0' t1' x2=> ?_
 simp only [zfp,pure_bind,zam,zhE,List.set,zbl,zcF,ze7,zi6,zbm,zbM,zgU,zr2,bind_assoc,zas,qaE,qaJ,zaL (show 0+1+1+1+1<=1000 by decide),zcm,zaY,zbe,zcI]
 refine zbh x2.1 (by decide) (by decide) fun f h3 f0 f1 x3=> ?_
 obtain ⟨kind,ef,g0,g1⟩: ∃ kind:Int,atI [D.int 1,.int 3,.int 20,.int 100000000000000000000] f=some (.int kind)/\0<kind/\kind<2^100:=by
  have:f=0\/f=1\/f=2\/f=3:=by omega
  rcases this with rfl | rfl | rfl | rfl
  ·exact ⟨1,rfl,by decide,by decide⟩
  ·exact ⟨3,rfl,by decide,by decide⟩
  ·exact ⟨20,rfl,by decide,by decide⟩
  ·exact ⟨100000000000000000000,rfl,by decide,by decide⟩
 simp only [zo3,ef,zir,zam,zhE,List.set,zbl,zcF,zcm,zbm,zbM,zaY,zgU,pure_bind,bind_assoc,zcI,zas]
 refine zbh x3.1 (by decide) (by decide) fun full h4 u0 u1 x4=> ?_
 simp only [zam,zhE,List.set,zbl,zcF,zg3,zbM,pure_bind,qaJ,zaL (show 0<=1000 by decide),zas,zjA,ziV,zi1,zbm,zcm,ze7,zbe,zaY,zgU,zfp,bind_assoc,zcI]
 have x5:=x4.1.push (c:= .lst [])
 have hnb:h4.length≠b:=fun z=>by
  obtain ⟨y,ey⟩:=x4.1
  have:=(qac.mp ey).1
  omega
 refine zbh x5.1 (by omega) (by omega) fun turns h6 v0 v1 x6=> ?_
 have e6:h6[h4.length]? = some (.lst []):=x6.2 _ _ hnb (by simp)
 simp only [zam,pure_bind,zbQ v0 (show turns<1000 by omega),zas]
 refine zga (N:=mo.toNat) (by omega) hnb (by omega) (by omega) g0 g1 _ x6.1 (os:=[]) e6 (fun o ho=>by cases ho) (by rw [zkA];simp;omega) fun x7 x8 os h7 q7 e7 ho hl=> ?_
 simp only [zhE,zce,zk6,zbm,zbM,zbe,zaY,pure_bind,bind_assoc,zcm,zlY,zas,zbd e7,zam,qaE,qaJ,zaL (show 0+1+1<=1000 by decide),zht]
 exact k (1+t) os h7 q7 (by omega) (by omega) (by omega) ho
theorem ziY {n:Nat} {s0:Option D}: ∀ (os:List (List Int×Int)) {h:Hh} {xs:List Int} {x2:Option D} {P:Out->Hh->Prop},h[n]? = some (.lst (xs.map D.int))->xs.length+(os.flatMap (·.1)).length<=1000->
  (∀ x2' h',(∀ k,k≠n->h'[k]? = h[k]?)->h'.length=h.length->h'[n]? = some (.lst ((xs++os.flatMap (·.1)).map D.int))->P (.nx [s0,some (.cel n),x2']) h')->
  wp (zbc (fun x sd=>do let sd1<-zaw 2 x sd;za9 sd1) (os.map zbt) [s0,some (.cel n),x2]) h P
 | [],h,xs,x2,P,e,_,k=>by
  rw [List.map_nil,zcy,zam]
  exact k x2 h (fun _ _=>rfl) rfl (by simpa using e)
 | o::os,h,xs,x2,P,e,hl,k=>by
  have hln:=(qac.mp e).1
  rw [List.flatMap_cons,qav] at hl
  have ih:=fun (x2':Option D)=>ziY (s0:=s0) (n:=n) os (h:=h.set n (.lst ((xs++o.1).map D.int))) (xs:=xs++o.1) (x2:=x2') (P:=P) (qai hln) (by rw [qav];omega) fun x2'' h' h1 h2 h3=>k x2'' h' (fun j hj=>(h1 j hj).trans (qao (Ne.symm hj))) (h2.trans (qaI ..)) (by rw [h3,List.flatMap_cons,List.append_assoc])
  rw [qaM,zcr]
  generalize zbc (fun x sd=>do let sd1<-zaw 2 x sd;za9 sd1) (os.map zbt)=rest at ih ⊢
  have f:=zaL (show (xs.map D.int).length+(o.1.map D.int).length<=1000 by rw [qaH,qaH];omega)
  simp only [qaH] at f
  simp only [za9]
  ac_nf0
  simp only [zas,zbd e,zam,qaH,f,zdW, <-List.map_append]
  exact ih _
theorem zr5 {d:D} {os:List (List Int×Int)} {m:Int} (hd:zfU d=pure (os.map zbt)) (m0:0<=m) (m1:m<=60) (hl:(os.flatMap (·.1)).length<=1000) (b: ∀ o∈os, ∀ x∈o.1,0<=x/\x<m):Ev (F_15 [d]) (tI (zeF (os.flatMap (·.1)))):=by
 refine .of_wp fun h=> ?_
 rw [d_15]
 simp only [G_15]
 ac_nf0
 simp only [hd,zam]
 refine ziY os (xs:=[]) (by simp) (by simpa using hl) fun x2 h' h1 h2 h3=> ?_
 ac_nf0
 have bb: ∀ x∈os.flatMap (·.1),0<=x/\x<m:=fun x hx=>by
  obtain ⟨o,ho,hx⟩:=List.mem_flatMap.mp hx
  exact b o ho x hx
 refine zhH (by simpa using h3) (ziB m0 m1 bb) (by omega) ?_
 ac_nf0
 refine ⟨trivial,⟨[.lst ((os.flatMap (·.1)).map D.int)],List.ext_getElem? fun j=> ?_⟩⟩
 by_cases hj:j=h.length
 ·subst hj
  rw [h3]
  simp
 ·rw [h1 j hj]
  by_cases hlt:j<h.length
  ·rw [qad hlt,qad hlt]
  ·rw [List.getElem?_eq_none (by simp;omega),List.getElem?_eq_none (by simp;omega)]
theorem zjy {os:List (List Int×Int)} {n:Nat} (h: ∀ o∈os,o.1.length<=n):(os.flatMap (·.1)).length<=os.length*n:=by
 induction os with
 | nil=>simp
 | cons o r ih=>
  rw [List.flatMap_cons,qav,qaE,Nat.succ_mul]
  have a1:=h o qau
  have a2:=ih fun x hx=>h x (qan _ hx)
  omega
theorem znW (s:Stk m os) {d:D} {os':List (List Int×Int)} (hd:zfU d=pure (os'.map zbt)) (hl:os'.length<=12) (hs: ∀ o∈os',o∈os):Ev (F_16 [zaK m os,d]) (.bl (((zeF (os'.flatMap (·.1))).length:Int)==m)):=by
 have tg:=zr5 hd (m:=m) (by have:=s.m0;omega) (by have:=s.m1;omega) (by have:=zjy (os:=os') (n:=10) fun o ho=>s.olen o (hs o ho);omega) fun o ho=>s.bd o (hs o ho)
 refine .of_wp fun h=> ?_
 rw [d_16]
 simp only [G_16,zaK]
 ac_nf0
 refine tg.wp fun h' g=> ?_
 ac_nf0
 rw [zn6]
 ac_nf0
 exact ⟨trivial,g⟩
noncomputable def zh9 (t:Int) (o:List Int×Int):Bool:=o.1.any (· == t)
noncomputable def zbD (m:Int) (os:List (List Int×Int)):List Int:=((List.range m.toNat).map fun (k:Nat)=>(k:Int)).filter fun t=>(os.filter (zh9 t)).isEmpty
noncomputable def wI (os:List (List Int×Int)) (t:Int):List Int:=((List.range os.length).filter fun j=>zh9 t (os.getD j ([],0))).map fun (j:Nat)=>(j:Int)
theorem zmo {m:Int} {os:List (List Int×Int)} (m0:1<=m) (m1:m<=10) (hl:os.length<=12) (h: ∀ o∈os,Go m o):Stk m os:=
 ⟨m0,m1,hl,fun o ho=>(h o ho).1,fun o ho=>(h o ho).2.1,fun o ho=>(h o ho).2.2.1,fun o ho=>(h o ho).2.2.2⟩
theorem zoF {fi:FA} {src:List (Option Nat)} {sd:Sd} {t:Int} (hi:fi sd=pure (os.map zbt)) (hl:os.length<=1000) (eb:zaq src sd=[none,some (.int t)]):zao fi (zaw 0) zcj zcg src sd=pure (.lst ((os.filter (zh9 t)).map zbt)):=by
 rw [<- zaE]
 refine zax hi hl fun o ho=> ?_
 rw [eb]
 simp only [za2,zcj,zcg]
 ac_nf0
 rw [zel]
 ac_nf0
 unfold zh9
 split<;>rfl
theorem zkL {fi:FA} {tc:FT} {src:List (Option Nat)} {sd:Sd} {x:Option D} (hi:fi sd=pure (ze6 0 m.toNat)) (m1:m<=1000) (eb:zaq src sd=[none,x]) (hc: ∀ t:Int,tc [some (.int t),x]=pure ((os.filter (zh9 t)).isEmpty)):zao fi (zaw 0) tc (zaf 0) src sd=pure (.lst ((zbD m os).map D.int)):=by
 unfold zbD
 rw [<- zaE]
 refine zax (by rw [hi,zbp]) (by simp;omega) fun t ht=> ?_
 rw [eb]
 simp only [za2]
 ac_nf0
 rw [hc]
 ac_nf0
 split<;>rfl
theorem zl6 (s:Stk m os):(zbD m os).isEmpty=(((zeF (os.flatMap (·.1))).length:Int)==m):=by
 have m0:=s.m0
 rw [<- zkJ (by omega) (zeJ _) fun x hx=>by
   obtain ⟨o,ho,hx⟩:=List.mem_flatMap.mp (zeD.mp hx)
   exact s.bd o ho x hx]
 rw [Bool.eq_iff_iff,beq_iff_eq,List.isEmpty_iff]
 unfold zbD
 rw [List.filter_eq_nil_iff]
 constructor
 ·intro h
  refine zmX (zeJ _) (zdz _) fun k=> ?_
  rw [zeD]
  constructor
  ·intro hk
   obtain ⟨o,ho,hx⟩:=List.mem_flatMap.mp hk
   have:=s.bd o ho k hx
   exact qaU.mpr ⟨k.toNat,List.mem_range.mpr (by omega),by omega⟩
  ·intro hk
   have:=h k hk
   rw [List.isEmpty_iff] at this
   obtain ⟨o,ho⟩:=List.exists_mem_of_ne_nil _ this
   obtain ⟨h1,h2⟩:=List.mem_filter.mp ho
   exact List.mem_flatMap.mpr ⟨o,h1,by simpa [zh9] using h2⟩
 ·intro e t ht
  rw [<- e,zeD] at ht
  obtain ⟨o,ho,hx⟩:=List.mem_flatMap.mp ht
  rw [List.isEmpty_iff]
  intro z
  have:o∈os.filter (zh9 t):=List.mem_filter.mpr ⟨ho,by simpa [zh9] using hx⟩
  rw [z] at this
  cases this
theorem zhf:dIx (zaK m os) (.int 1)=pure (.tup (os.map zbt)):=rfl
theorem zoA:dIx (zaK m os) (.int 0)=pure (.int m):=rfl
theorem zp6 (s:Stk m os):Ev (F_11 [zaK m os]) (.bl (zbD m os).isEmpty):=by
 rw [zl6 s]
 refine .of_wp fun h=> ?_
 rw [d_11]
 simp only [G_11]
 ac_nf0
 rw [zhf]
 ac_nf0
 refine (znW s (d:= .tup (os.map zbt)) rfl s.len fun o ho=>ho).wp fun h' g=> ?_
 ac_nf0
 exact ⟨trivial,g⟩
theorem zl9 (s:Stk m os) (hf:(zbD m os).isEmpty=true):Ev (F_12 [zaK m os]) .non:=by
 refine .of_wp fun h=> ?_
 rw [d_12]
 simp only [G_12]
 ac_nf0
 refine (zp6 s).noX.wp fun h' g=> ?_
 rw [hf]
 ac_nf0
 exact ⟨trivial,g⟩
theorem zhO {fi:FA} {src:List (Option Nat)} {sd:Sd} {t:Int} (hi:fi sd=pure (zhn (os.map zbt))) (hl:os.length<=1000) (eb:zaq src sd=[none,none,some (.int t)]):zao fi (zbO 2 (zau (zaw 0) (zau (zaw 1) zbP))) zbK zbS src sd=pure (.lst ((wI os t).map D.int)):=by
 unfold wI
 rw [qaT, <-zaE]
 refine zax (g':=fun (i:Nat)=> .tup [.int i,(os.map zbt).getD i .non]) (by rw [hi];unfold zhn;rw [qaH]) (by simpa using hl) fun i hi'=> ?_
 have hi2:i<os.length:=List.mem_range.mp hi'
 have eo:(os.map zbt).getD i .non=zbt (os.getD i ([],0)):=by simp [List.getD,hi2]
 rw [eb]
 simp only [za2,zbK,zbS,eo]
 ac_nf0
 rw [zel]
 ac_nf0
 unfold zh9
 split<;>rfl
theorem zll (s:Stk m os) {t:Int}:F_17 [zaK m os,.int t]=pure (tI (wI os t)):=by
 have ol:=s.len
 have ec:zao (zsb (cOp dIx (zaf 0) (cK (.int 1)))) (zbO 2 (zau (zaw 0) (zau (zaw 1) zbP))) zbK zbS [none,none,some 1] [some (zaK m os),some (.int t)]=pure (.lst ((wI os t).map D.int)):=zhO rfl (by omega) rfl
 rw [d_17]
 simp only [G_17]
 ac_nf0
 rw [ec]
 ac_nf0
theorem znM (s:Stk m os) {a:Nat} {p:Int}:(zbD m (os.take a++[(zbD m os,p)]++os.drop a)).isEmpty=true:=by
 rw [List.isEmpty_iff]
 unfold zbD
 rw [List.filter_eq_nil_iff]
 intro t ht
 rw [List.isEmpty_iff]
 intro z
 by_cases c:(os.filter (zh9 t)).isEmpty=true
 ·have h1:t∈zbD m os:=List.mem_filter.mpr ⟨ht,c⟩
  have h2:(zbD m os,p)∈(os.take a++[(zbD m os,p)]++os.drop a).filter (zh9 t):=List.mem_filter.mpr ⟨by simp,by simpa [zh9] using h1⟩
  unfold zbD at h2
  rw [z] at h2
  cases h2
 ·rw [List.isEmpty_iff] at c
  obtain ⟨o,ho⟩:=List.exists_mem_of_ne_nil _ c
  obtain ⟨h1,h2⟩:=List.mem_filter.mp ho
  have h3:o∈os.take a++os.drop a:=by rw [List.take_append_drop];exact h1
  have h4:o∈(os.take a++[(zbD m os,p)]++os.drop a).filter (zh9 t):=List.mem_filter.mpr ⟨by
    rcases qaK.mp h3 with w | w
    · simp [w]
    · simp [w],h2⟩
  unfold zbD at h4
  rw [z] at h4
  cases h4
theorem zpv {h:Hh} {b:Nat} {mt mo:Int} {P:D->Hh->Prop} (q:Bx b h) (t0:1<=mt) (t1:mt<=10) (o0:1<=mo) (o1:mo<=12) (k: ∀ (m:Int) (os:List (List Int×Int)) h',Bx b h'->Stk m os->(zbD m os).isEmpty=true->(os.length:Int)<=mo->m<=mt->P (zaK m os) h'):wp (F_41 [.cel b,.int mt,.int mo]) h P:=by
 rw [d_41]
 simp only [G_41]
 ac_nf0
 refine zmR q t0 t1 (by omega) (by omega) fun m os h2 q2 m0 m1 ol ho=> ?_
 have s:=zmo m0 (by omega) (by omega) ho
 have ec:zao (zfh (zac (zaf 3) zak)) (zaw 0) zdc zey [none,some 4] [some (.cel b),some (.int mt),some (.int mo),some (.int m),some (.tup (os.map zbt)),none,none]=pure (.lst ((zbD m os).map D.int)):=by
  refine zkL (x:=some (.tup (os.map zbt))) ?_ (by omega) rfl fun t=> ?_
  ·ac_nf0
   exact zbQ (by omega) (by omega)
  ·have eo:zao (iSq (zaf 1)) (zaw 0) zcj zcg [none,some 0] [some (.int t),some (.tup (os.map zbt))]=pure (.lst ((os.filter (zh9 t)).map zbt)):=zoF rfl (by omega) rfl
   simp only [zdc]
   ac_nf0
   rw [eo]
   ac_nf0
   rw [znJ]
   ac_nf0
 simp only [zaK]
 ac_nf0
 rw [ec]
 ac_nf0
 refine zbh q2 (by omega) (by omega) fun a h3 a0 a1 x3=> ?_
 have en:=znq (zbD m os)
 unfold tI at en
 ac_nf0
 rw [en]
 ac_nf0
 cases hf:(zbD m os).isEmpty with
 | true=>
  ac_nf0
  exact k m os h3 x3.1 s hf (by omega) m1
 | false=>
  ac_nf0
  refine zbh x3.1 (by decide) (by decide) fun t h4 u0 u1 x4=> ?_
  have f1:=zaL (show (List.take a.toNat (os.map zbt)).length+1<=1000 by simp;omega)
  have f2:=zaL (show (List.take a.toNat (os.map zbt)).length+1+(List.drop a.toNat (os.map zbt)).length<=1000 by simp;omega)
  ac_nf0
  simp only [zi5 _ a0,zjp _ a0,f1,f2]
  ac_nf0
  have hs:Stk m (os.take a.toNat++[(zbD m os,1+t)]++os.drop a.toNat):=by
   refine zmo m0 (by omega) (by simp;omega) fun o hmem=> ?_
   have hm:o∈os\/o=(zbD m os,1+t):=by
    simp only [qaK,List.mem_singleton] at hmem
    rcases hmem with (w | w) | w
    ·exact .inl (List.mem_of_mem_take w)
    ·exact .inr w
    ·exact .inl (List.mem_of_mem_drop w)
   rcases hm with w | rfl
   ·exact ho o w
   ·refine ⟨(zdz _).filter _,fun x hx=> ?_,fun z=> ?_,by show (0:Int)<1+t;omega⟩
    ·have:=zfm x (List.mem_filter.mp hx).1
     omega
    ·have z:zbD m os=[]:=z
     rw [z] at hf
     cases hf
  have hk:=k _ _ h4 x4.1 hs (znM s) (by simp;omega) m1
  simp only [zaK,List.map_append,qaM,List.map_nil,List.map_take,List.map_drop,zbt,tI] at hk
  simpa using hk
theorem zmV {S:Nat->Nat->Bool} {n b one:Nat} (hb:b<n) (ho:one<n):F_32 [zi8 S n,.int (b:Int),.int (one:Int)]=pure (.bl (Rul S b one)):=by
 obtain ⟨e1,e2⟩:=zoj (S:=S) ho hb
 obtain ⟨e3,e4⟩:=zoj (S:=S) hb ho
 rw [d_32]
 simp only [G_32,zi8]
 ac_nf0
 rw [e1]
 ac_nf0
 rw [e2]
 ac_nf0
 unfold Rul
 cases S one b
 ·ac_nf0
  rfl
 ·ac_nf0
  simp only [zpP]
  ac_nf0
  by_cases hlt:(b:Int)<(one:Int)
  ·have h2:b<one:=by omega
   simp only [hlt,h2,decide_true]
   ac_nf0
   rfl
  ·have h2: ¬b<one:=by omega
   simp only [hlt,h2,decide_false]
   ac_nf0
   rw [e3]
   ac_nf0
   rw [e4]
   ac_nf0
   rfl
theorem zqi {fi:FA} {src:List (Option Nat)} {sd:Sd} {S:Nat->Nat->Bool} {n one:Nat} (ho:one<n) (hn:n<=1000) (hi:fi sd=pure (ze6 0 n)) (eb:zaq src sd=[none,some (zi8 S n),some (.int (one:Int))]):zao fi (zaw 0) zcC zcB src sd=pure (.lst (((List.range n).filter fun b=>Rul S b one).map fun (b:Nat)=> .int (b:Int))):=by
 rw [<- zaE]
 refine zax (g':=fun (k:Nat)=> .int (k:Int)) (by rw [hi,zbp,qaT];rfl) (by simpa using hn) fun b hb=> ?_
 rw [eb]
 simp only [za2,zcC,zcB]
 ac_nf0
 rw [zmV (List.mem_range.mp hb) ho]
 ac_nf0
 split<;>rfl
theorem ziD {S:Nat->Nat->Bool} {n:Nat} (hn:n<=500) {c:Nat}: ∀ (ones:List Nat) {h:Hh} {ps:List D} {x2 x3:Option D} {P:Out->Hh->Prop},h[c]? = some (.lst ps)->ps.length+ones.length<=1000->(∀ o∈ones,o<n)->
  (∀ x2' x3',P (.nx [some (zi8 S n),some (.cel c),x2',x3']) (h.set c (.lst (ps++ones.filterMap (zkh S n)))))->
  wp (zbc (fun x sd=>do let sd1<-zaw 2 x sd;zcu sd1) (ones.map fun (o:Nat)=> .int (o:Int)) [some (zi8 S n),some (.cel c),x2,x3]) h P
 | [],h,ps,x2,x3,P,e,hl,ho,k=>by
  rw [List.map_nil,zcy,zam]
  have:=k x2 x3
  rw [List.filterMap_nil,List.append_nil,zgF e] at this
  exact this
 | o::r,h,ps,x2,x3,P,e,hl,ho,k=>by
  have hln:=(qac.mp e).1
  have hon:=ho o qau
  rw [qaE] at hl
  have ihN:=fun (x2' x3':Option D) (hf:zkh S n o=none)=>ziD hn r (h:=h) (ps:=ps) (x2:=x2') (x3:=x3') (P:=P) e (by omega) (fun y hy=>ho y (qan _ hy)) fun a b=>by
   have:=k a b
   rw [qat,hf] at this
   exact this
  have ihS:=fun (x2' x3':Option D) (p:D) (hf:zkh S n o=some p)=>ziD hn r (h:=h.set c (.lst (ps++[p]))) (ps:=ps++[p]) (x2:=x2') (x3:=x3') (P:=P) (qai hln) (by simp;omega) (fun y hy=>ho y (qan _ hy)) fun a b=>by
   have:=k a b
   rw [qat,hf] at this
   rw [List.set_set,List.append_assoc]
   exact this
  have ec:zao (zfh (zac (zaz zdn (zac (zaf 0) zak)) zak)) (zaw 0) zcC zcB [none,some 0,some 2] [some (zi8 S n),some (.cel c),some (.int (o:Int)),x3]=pure (.lst (((List.range n).filter fun b=>Rul S b o).map fun (b:Nat)=> .int (b:Int))):=by
   refine zqi hon (by omega) ?_ rfl
   simp only [zi8]
   ac_nf0
   simp only [List.length_range]
   rw [zbQ (by omega) (by omega),qaB]
  have f:=zaL (show ps.length+1<=1000 by omega)
  rw [qaM,zcr]
  generalize zbc (fun x sd=>do let sd1<-zaw 2 x sd;zcu sd1) (r.map fun (o:Nat)=> .int (o:Int))=rest at ihN ihS ⊢
  simp only [zcu]
  ac_nf0
  rw [ec]
  ac_nf0
  unfold zkh at ihN ihS
  cases hf:(List.range n).filter fun b=>Rul S b o with
  | nil=>
   rw [hf] at ihN
   simp only [L3.znU,zs7,zkT,List.map_nil]
   ac_nf0
   simp only [List.isEmpty_nil]
   ac_nf0
   exact ihN _ _ rfl
  | cons b bs=>
   rw [hf] at ihS
   simp only [L3.znU,zs7,zkT,qaM]
   ac_nf0
   simp only [List.isEmpty_cons]
   ac_nf0
   simp only [zbk]
   ac_nf0
   simp only [zbd e,zam,zbr,zas,f,zdW]
   exact ihS _ _ _ rfl
theorem zrj {S:Nat->Nat->Bool} {n:Nat} (hn:n<=500):Ev (F_31 [zi8 S n]) (.lst (zid S n)):=by
 refine .of_wp fun h=> ?_
 rw [d_31]
 simp only [G_31]
 ac_nf0
 have el:zdn [zi8 S n]=pure (.int (n:Int)):=by
  simp only [zi8]
  ac_nf0
  simp
 rw [el]
 ac_nf0
 rw [zbQ (by omega) (by omega),qaB,zbp,qaT,zam]
 refine ziD hn (List.range n) (c:=h.length) (h:=h++[.lst []]) (ps:=[]) (by simp) (by rw [List.length_range,qaJ];omega) (fun o ho=>List.mem_range.mp ho) fun x2 x3=> ?_
 ac_nf0
 rw [zeo]
 refine zi4 (ds:=(List.range n).filterMap (zkh S n)) (by simp) ?_
 rw [zeo]
 ac_nf0
 first | exact ⟨⟨_,rfl⟩,rfl⟩ | exact ⟨rfl,⟨_,rfl⟩⟩ | exact ⟨_,rfl⟩
theorem zi0 {xs ys:List Int} (hx:xs.length<=1000):F_30 [tI xs,tI ys]=pure (.bl (inB xs ys)):=by
 rw [d_30]
 simp only [G_30]
 have ec:zao (iSq (zaf 0)) (zaw 0) (fun _=>pure true) zc6 [none,some 1] [some (tI xs),some (tI ys)]=pure (.lst ((xs.map fun x=>ys.any (· == x)).map D.bl)):=by
  have e:(xs.map fun x=>ys.any (· == x)).map D.bl=xs.filterMap fun x=>some (.bl (ys.any (· == x))):=by simp
  rw [e]
  refine zax (g':=D.int) rfl hx fun x _=> ?_
  have eb:zaq [none,some 1] [some (tI xs),some (tI ys)]=[none,some (tI ys)]:=rfl
  rw [eb]
  simp only [za2,zc6]
  ac_nf0
  rw [zel]
  ac_nf0
 ac_nf0
 simp only [tI] at ec
 rw [ec]
 ac_nf0
 rw [zit]
 ac_nf0
 unfold inB
 rw [List.all_map]
 rfl
noncomputable def soB (o o':List Int×Int):Bool:=decide (o'.2<=o.2) && inB o.1 o'.1
noncomputable def So (os:List (List Int×Int)) (i j:Nat):Bool:=soB (os.getD i ([],0)) (os.getD j ([],0))
noncomputable def Sth (os:List (List Int×Int)) (i j:Nat):Bool:=inB (wI os j) (wI os i)
theorem zox {t:Int}:(wI os t).length<=os.length:=by
 unfold wI
 rw [qaH]
 exact qaS (List.length_filter_le _ _) (by simp)
theorem zrg {t:Int}:(wI os t).Pairwise (· < ·):=by
 unfold wI
 rw [List.pairwise_map]
 exact (List.pairwise_lt_range.filter _).imp fun z=>by omega
theorem zqc (s:Stk m os) {o:List Int×Int} (ho:o∈os):F_27 [zaK m os,zbt o]=pure (.lst (os.map fun o'=> .bl (soB o o'))):=by
 have ol:=s.len
 have hl:=s.olen o ho
 have ec:zao (iSq (cOp dIx (zaf 0) (cK (.int 1)))) (zaw 0) (fun _=>pure true) zbR [none,some 1] [some (zaK m os),some (zbt o)]=pure (.lst (os.map fun o'=> .bl (soB o o'))):=by
  rw [show (os.map fun o'=>D.bl (soB o o'))=os.filterMap fun o'=>some (.bl (soB o o')) by simp]
  refine zax (g':=zbt) rfl (by omega) fun o' _=> ?_
  have eb:zaq [none,some 1] [some (zaK m os),some (zbt o)]=[none,some (zbt o)]:=rfl
  have ea:=zi0 (xs:=o.1) (ys:=o'.1) (by omega)
  rw [eb]
  simp only [za2,zbR]
  simp only [tI] at ea
  ac_nf0
  simp only [ztj]
  ac_nf0
  unfold soB
  cases decide (o'.2<=o.2)
  ·ac_nf0
   rfl
  ·ac_nf0
   rw [ea]
   ac_nf0
   rfl
 rw [d_27]
 simp only [G_27,zce]
 rw [ec]
 rfl
theorem zp4 (s:Stk m os):F_26 [zaK m os]=pure (zi8 (So os) os.length):=by
 have ol:=s.len
 have ec:zao (iSq (cOp dIx (zaf 0) (cK (.int 1)))) (zaw 0) (fun _=>pure true) zbG [none,some 0] [some (zaK m os)]=pure (.lst (os.map fun o=> .lst (os.map fun o'=> .bl (soB o o')))):=by
  rw [show (os.map fun o=>D.lst (os.map fun o'=> .bl (soB o o')))=os.filterMap fun o=>some (.lst (os.map fun o'=> .bl (soB o o'))) by simp]
  refine zax (g':=zbt) rfl (by omega) fun o ho=> ?_
  have eb:zaq [none,some 0] [some (zaK m os)]=[none,some (zaK m os)]:=rfl
  have eg:=zqc s ho
  rw [eb]
  simp only [za2,zbG]
  simp only [zbt,tI] at eg
  ac_nf0
  rw [eg]
  ac_nf0
 rw [d_26]
 simp only [G_26,zce]
 rw [ec]
 have e:(os.map fun o=>D.lst (os.map fun o'=> .bl (soB o o')))=(List.range os.length).map fun i=> .lst ((List.range os.length).map fun j=> .bl (So os i j)):=by
  rw [ziX ([],0) (fun o=>D.lst (os.map fun o'=> .bl (soB o o'))) os]
  refine List.map_congr_left fun i _=> ?_
  rw [ziX ([],0) (fun o'=>D.bl (soB (os.getD i ([],0)) o')) os]
  rfl
 rw [e]
 rfl
theorem zkN (s:Stk m os) {t:Nat}:F_29 [zaK m os,.int (t:Int)]=pure (.lst ((List.range m.toNat).map fun u=> .bl (Sth os t u))):=by
 have m0:=s.m0
 have m1:=s.m1
 have ol:=s.len
 have ec:zao (zfh (zac (cOp dIx (zaf 0) (cK (.int 0))) zak)) (zaw 0) (fun _=>pure true) zbA [none,some 0,some 2] [some (zaK m os),some (.int (t:Int)),some (tI (wI os t))]=pure (.lst ((List.range m.toNat).map fun u=> .bl (Sth os t u))):=by
  rw [show ((List.range m.toNat).map fun u=>D.bl (Sth os t u))=(List.range m.toNat).filterMap fun u=>some (.bl (Sth os t u)) by simp]
  refine zax (g':=fun (k:Nat)=> .int (k:Int)) ?_ (by simp;omega) fun u _=> ?_
  ·ac_nf0
   rw [zoA]
   ac_nf0
   rw [zbQ (by omega) (by omega),zbp,qaT]
   rfl
  ·have eb:zaq [none,some 0,some 2] [some (zaK m os),some (.int (t:Int)),some (tI (wI os t))]=[none,some (zaK m os),some (tI (wI os t))]:=rfl
   have ea:=zi0 (xs:=wI os u) (ys:=wI os t) (by have:=zox (os:=os) (t:=u);omega)
   rw [eb]
   simp only [za2,zbA]
   simp only [tI] at ea
   ac_nf0
   rw [zll s]
   ac_nf0
   rw [ea]
   ac_nf0
   rfl
 rw [d_29]
 simp only [G_29]
 simp only [tI] at ec
 ac_nf0
 rw [zll s]
 ac_nf0
 rw [ec]
 ac_nf0
theorem zpI (s:Stk m os):F_28 [zaK m os]=pure (zi8 (Sth os) m.toNat):=by
 have m0:=s.m0
 have m1:=s.m1
 have ec:zao (zfh (zac (cOp dIx (zaf 0) (cK (.int 0))) zak)) (zaw 0) (fun _=>pure true) zbH [none,some 0] [some (zaK m os)]=pure (zi8 (Sth os) m.toNat):=by
  unfold zi8
  rw [show ((List.range m.toNat).map fun i=>D.lst ((List.range m.toNat).map fun j=> .bl (Sth os i j)))=(List.range m.toNat).filterMap fun i=>some (.lst ((List.range m.toNat).map fun j=> .bl (Sth os i j))) by simp]
  refine zax (g':=fun (k:Nat)=> .int (k:Int)) ?_ (by simp;omega) fun u _=> ?_
  ·ac_nf0
   rw [zoA]
   ac_nf0
   rw [zbQ (by omega) (by omega),zbp,qaT]
   rfl
  ·have eb:zaq [none,some 0] [some (zaK m os)]=[none,some (zaK m os)]:=rfl
   rw [eb]
   simp only [za2,zbH]
   ac_nf0
   rw [zkN s]
   ac_nf0
 rw [d_28]
 simp only [G_28,zce]
 rw [ec]
 rfl
theorem ztY (s:Stk m os) (hf:(zbD m os).isEmpty=true):Ev (F_22 [zaK m os]) (.lst (zid (So os) os.length)):=by
 have ol:=s.len
 have m1:=s.m1
 rw [d_22]
 simp only [G_22]
 refine .of_wp fun h=> ?_
 ac_nf0
 refine (zl9 s hf).wp fun h1 g=> ?_
 ac_nf0
 rw [zp4 s]
 ac_nf0
 refine (zrj (by omega)).noX.wp fun h2 g2=> ?_
 ac_nf0
 have g3:=g.trans g2
 first | exact ⟨trivial,g3⟩ | exact ⟨g3,trivial⟩ | exact ⟨rfl,g3⟩ | exact g3
theorem zs8 (s:Stk m os) (hf:(zbD m os).isEmpty=true):Ev (F_23 [zaK m os]) (.lst (zid (Sth os) m.toNat)):=by
 have ol:=s.len
 have m1:=s.m1
 rw [d_23]
 simp only [G_23]
 refine .of_wp fun h=> ?_
 ac_nf0
 refine (zl9 s hf).wp fun h1 g=> ?_
 ac_nf0
 rw [zpI s]
 ac_nf0
 refine (zrj (by omega)).noX.wp fun h2 g2=> ?_
 ac_nf0
 have g3:=g.trans g2
 first | exact ⟨trivial,g3⟩ | exact ⟨g3,trivial⟩ | exact ⟨rfl,g3⟩ | exact g3
theorem zoL (s:Stk m os) {b one:Nat} (hb:b<os.length) (ho:one<os.length):F_44 [zaK m os,.int (b:Int),.int (one:Int)]=pure (.bl (Rul (So os) b one)):=by
 have e1:=zda (os:=os) (i:=(b:Int)) (by omega) (by omega)
 have e2:=zda (os:=os) (i:=(one:Int)) (by omega) (by omega)
 rw [qaB] at e1 e2
 have mb:os.getD b ([],0)∈os:=by simp [List.getD,hb]
 have mo:os.getD one ([],0)∈os:=by simp [List.getD,ho]
 unfold Rul So
 generalize hB:os.getD b ([],0)=B at e1 mb
 generalize hO:os.getD one ([],0)=O at e2 mo
 have lO:=s.olen O mo
 have ec: ∀ {sd:Sd} {s3:Option D},zao (iSq (zaf 5)) (zaw 0) zcR zcO [none,some 3] [some (zaK m os),some (.int (b:Int)),some (.int (one:Int)),some (.tup (B.1.map D.int)),some (.int B.2),some (.tup (O.1.map D.int)),some (.int O.2)]=pure (.lst ((O.1.filter fun x=> !B.1.any (· == x)).map D.int)):=by
  intro _ _
  rw [<- zaE]
  refine zax (g':=D.int) rfl (by omega) fun x _=> ?_
  have eb:zaq [none,some 3] [some (zaK m os),some (.int (b:Int)),some (.int (one:Int)),some (.tup (B.1.map D.int)),some (.int B.2),some (.tup (O.1.map D.int)),some (.int O.2)]=[none,some (.tup (B.1.map D.int))]:=rfl
  rw [eb]
  simp only [za2,zcR,zcO]
  ac_nf0
  rw [zhp]
  ac_nf0
  split<;>rfl
 rw [d_44]
 simp only [G_44]
 ac_nf0
 rw [zhf]
 ac_nf0
 rw [e1]
 ac_nf0
 rw [zhf]
 ac_nf0
 rw [e2]
 ac_nf0
 rw [zn6]
 ac_nf0
 have eqI:dEq (.tup (B.1.map D.int)) (.tup (O.1.map D.int))=pure (.bl (B.1==O.1)):=zn9 B.1 O.1
 by_cases h1:b=one
 ·subst h1
  have:B=O:=by rw [<- hB, <-hO]
  subst this
  simp only [beq_self_eq_true]
  ac_nf0
  congr 2
  simp
 ·have h1':((b:Int)==(one:Int))=false:=by
   rw [beq_eq_false_iff_ne]
   omega
  rw [h1']
  ac_nf0
  rw [ec (sd:=[]) (s3:=none)]
  ac_nf0
  rw [zdJ,zgk]
  ac_nf0
  cases h2:inB O.1 B.1
  ·ac_nf0
   simp [soB,h2]
  ·ac_nf0
   by_cases h3:O.2<B.2
   ·have h4: ¬B.2<=O.2:=by omega
    simp only [h3,decide_true]
    ac_nf0
    simp [soB,h4]
   ·have h4:B.2<=O.2:=by omega
    simp only [h3,decide_false]
    ac_nf0
    rw [eqI]
    ac_nf0
    have hq:=zn2 (s.up O mo) (s.up B mb) h2
    have e5:soB O B=true:=by simp [soB,h2,h4]
    have e6:soB B O=((B.1==O.1) && (B.2==O.2)):=by
     unfold soB
     rw [hq,Bool.and_comm,Bool.eq_iff_iff]
     simp
     intro _
     omega
    rw [e5,e6]
    cases hb1:(B.1==O.1)
    ·ac_nf0
     simp
    ·ac_nf0
     rw [zn6]
     ac_nf0
     cases hb2:(B.2==O.2)
     ·ac_nf0
      simp
     ·ac_nf0
      simp only [zpP]
      ac_nf0
      congr 2
      simp
theorem zkr (s:Stk m os) {t:Int}:F_45 [zaK m os,.int t]=pure (.lst ((wI os t).map D.int)):=by
 have ol:=s.len
 have ec:zao (zsb (cOp dIx (zaf 0) (cK (.int 1)))) (zbO 2 (zau (zaw 0) (zau (zaw 1) zbP))) zeg zeB [none,none,some 1] [some (zaK m os),some (.int t)]=pure (.lst ((wI os t).map D.int)):=zhO rfl (by omega) rfl
 rw [d_45]
 simp only [G_45,zce]
 rw [ec]
 rfl
theorem zqj (s:Stk m os) {b one:Nat}:F_46 [zaK m os,.int (b:Int),.int (one:Int)]=pure (.bl (Rul (Sth os) b one)):=by
 have ol:=s.len
 have lB:=zox (os:=os) (t:=(b:Int))
 have ec:zao (iSq (zaf 3)) (zaw 0) zby zbB [none,some 4] [some (zaK m os),some (.int (b:Int)),some (.int (one:Int)),some (.lst ((wI os b).map D.int)),some (.lst ((wI os one).map D.int))]=pure (.lst (((wI os b).filter fun x=> !(wI os one).any (· == x)).map D.int)):=by
  rw [<- zaE]
  refine zax (g':=D.int) rfl (by omega) fun x _=> ?_
  have eb:zaq [none,some 4] [some (zaK m os),some (.int (b:Int)),some (.int (one:Int)),some (.lst ((wI os b).map D.int)),some (.lst ((wI os one).map D.int))]=[none,some (.lst ((wI os one).map D.int))]:=rfl
  rw [eb]
  simp only [za2,zby,zbB]
  ac_nf0
  rw [zec]
  ac_nf0
  split<;>rfl
 rw [d_46]
 simp only [G_46]
 ac_nf0
 rw [zkr s]
 ac_nf0
 rw [zkr s]
 ac_nf0
 rw [zn6]
 ac_nf0
 unfold Rul Sth
 by_cases h1:b=one
 ·subst h1
  simp only [beq_self_eq_true]
  ac_nf0
  congr 2
  simp
 ·have h1':((b:Int)==(one:Int))=false:=by
   rw [beq_eq_false_iff_ne]
   omega
  rw [h1']
  ac_nf0
  rw [ec]
  ac_nf0
  rw [zdJ,zgk]
  ac_nf0
  cases h2:inB (wI os b) (wI os one)
  ·ac_nf0
   simp
  ·ac_nf0
   rw [zqe]
   ac_nf0
   have hq:=zn2 (zrg (os:=os) (t:=b)) (zrg (os:=os) (t:=one)) h2
   rw [hq]
   have hs:(wI os (one:Int)==wI os (b:Int))=(wI os (b:Int)==wI os (one:Int)):=by
    rw [Bool.eq_iff_iff,beq_iff_eq,beq_iff_eq]
    exact eq_comm
   rw [hs]
   cases (wI os (b:Int)==wI os (one:Int))
   ·ac_nf0
    simp
   ·ac_nf0
    simp only [zpP]
    ac_nf0
    congr 2
    simp
theorem zoW (f:Bool) {S:Nat->Nat->Bool} {n one c:Nat} (ho:one<n) (hn:n<=500) (hR: ∀ b,b<n->(if f=true then F_46 [zaK m os,.int (b:Int),.int (one:Int)] else F_44 [zaK m os,.int (b:Int),.int (one:Int)])=pure (.bl (Rul S b one))) {x5:Option D}:
  zao (zfh (zac (zaf 2) zak)) (zaw 0) zcK zcG [none,some 1,some 0,some 4] [some (zaK m os),some (.bl f),some (.int (n:Int)),some (.cel c),some (.int (one:Int)),x5]=pure (.lst (((List.range n).filter fun b=>Rul S b one).map fun (b:Nat)=> .int (b:Int))):=by
 rw [<- zaE]
 refine zax (g':=fun (k:Nat)=> .int (k:Int)) ?_ (by simp;omega) fun b hb=> ?_
 ·ac_nf0
  rw [zbQ (by omega) (by omega),qaB,zbp,qaT]
  rfl
 ·have eb:zaq [none,some 1,some 0,some 4] [some (zaK m os),some (.bl f),some (.int (n:Int)),some (.cel c),some (.int (one:Int)),x5]=[none,some (.bl f),some (zaK m os),some (.int (one:Int))]:=rfl
  have hr:=hR b (List.mem_range.mp hb)
  rw [eb]
  simp only [za2,zcK,zcG]
  cases f with
  | false=>
   have ei:zfP [.bl false]=pure (.int 0):=rfl
   simp only [qax,if_false] at hr
   ac_nf0
   rw [ei]
   ac_nf0
   rw [znH]
   ac_nf0
   rw [hr]
   ac_nf0
   split<;>rfl
  | true=>
   have ei:zfP [.bl true]=pure (.int 1):=rfl
   simp only [if_true] at hr
   ac_nf0
   rw [ei]
   ac_nf0
   rw [zmw]
   ac_nf0
   rw [hr]
   ac_nf0
   split<;>rfl
theorem ziE (f:Bool) {S:Nat->Nat->Bool} {n:Nat} (hn:n<=500) (hR: ∀ b one,b<n->one<n->(if f=true then F_46 [zaK m os,.int (b:Int),.int (one:Int)] else F_44 [zaK m os,.int (b:Int),.int (one:Int)])=pure (.bl (Rul S b one))) {c:Nat}:
  ∀ (ones:List Nat) {h:Hh} {ps:List D} {x4 x5:Option D} {P:Out->Hh->Prop},h[c]? = some (.lst ps)->ps.length+ones.length<=1000->(∀ o∈ones,o<n)->
  (∀ x4' x5',P (.nx [some (zaK m os),some (.bl f),some (.int (n:Int)),some (.cel c),x4',x5']) (h.set c (.lst (ps++ones.filterMap (zkh S n)))))->
  wp (zbc (fun x sd=>do let sd1<-zaw 4 x sd;zbZ sd1) (ones.map fun (o:Nat)=> .int (o:Int)) [some (zaK m os),some (.bl f),some (.int (n:Int)),some (.cel c),x4,x5]) h P
 | [],h,ps,x4,x5,P,e,hl,ho,k=>by
  rw [List.map_nil,zcy,zam]
  have:=k x4 x5
  rw [List.filterMap_nil,List.append_nil,zgF e] at this
  exact this
 | o::r,h,ps,x4,x5,P,e,hl,ho,k=>by
  have hln:=(qac.mp e).1
  have hon:=ho o qau
  rw [qaE] at hl
  have ihN:=fun (x4' x5':Option D) (hf:zkh S n o=none)=>ziE f hn hR r (h:=h) (ps:=ps) (x4:=x4') (x5:=x5') (P:=P) e (by omega) (fun y hy=>ho y (qan _ hy)) fun a b=>by
   have:=k a b
   rw [qat,hf] at this
   exact this
  have ihS:=fun (x4' x5':Option D) (p:D) (hf:zkh S n o=some p)=>ziE f hn hR r (h:=h.set c (.lst (ps++[p]))) (ps:=ps++[p]) (x4:=x4') (x5:=x5') (P:=P) (qai hln) (by simp;omega) (fun y hy=>ho y (qan _ hy)) fun a b=>by
   have:=k a b
   rw [qat,hf] at this
   rw [List.set_set,List.append_assoc]
   exact this
  have ec:=zoW (m:=m) (os:=os) f (S:=S) (c:=c) hon hn (fun b hb=>hR b o hb hon) (x5:=x5)
  have f1:=zaL (show ps.length+1<=1000 by omega)
  rw [qaM,zcr]
  generalize zbc (fun x sd=>do let sd1<-zaw 4 x sd;zbZ sd1) (r.map fun (o:Nat)=> .int (o:Int))=rest at ihN ihS ⊢
  simp only [zbZ]
  ac_nf0
  rw [ec]
  ac_nf0
  rw [zmt]
  ac_nf0
  unfold zkh at ihN ihS
  cases hf:(List.range n).filter fun b=>Rul S b o with
  | nil=>
   rw [hf] at ihN
   simp only [List.isEmpty_nil]
   ac_nf0
   exact ihN _ _ rfl
  | cons b bs=>
   rw [hf] at ihS
   simp only [List.isEmpty_cons,qaM]
   ac_nf0
   simp only [zbk]
   ac_nf0
   simp only [zbd e,zam,zbr,zas,f1,zdW]
   exact ihS _ _ _ rfl
theorem zqH (f:Bool) {S:Nat->Nat->Bool} {n:Nat} (hn:n<=500) (hN:(if f=true then m else (os.length:Int))=(n:Int)) (hR: ∀ b one,b<n->one<n->(if f=true then F_46 [zaK m os,.int (b:Int),.int (one:Int)] else F_44 [zaK m os,.int (b:Int),.int (one:Int)])=pure (.bl (Rul S b one))):Ev (F_47 [zaK m os,.bl f]) (.lst (zid S n)):=by
 refine .of_wp fun h=> ?_
 rw [d_47]
 simp only [G_47]
 ac_nf0
 rw [zhf]
 ac_nf0
 rw [zoA]
 ac_nf0
 have ei:(do let x<-zfP [.bl f];dIx (.lst [.int (os.length:Int),.int m]) x:M D)=pure (.int (n:Int)):=by
  rw [<- hN]
  cases f<;>rfl
 have ei2:zfP [.bl f]=pure (.int (if f=true then 1 else 0)):=rfl
 rw [ei2,pure_bind] at ei
 rw [ei2]
 ac_nf0
 rw [zo3] at ei
 rw [ei]
 ac_nf0
 rw [zbQ (by omega) (by omega),qaB,zbp,qaT,zam]
 refine ziE f hn hR (List.range n) (c:=h.length) (h:=h++[.lst []]) (ps:=[]) (by simp) (by rw [List.length_range,qaJ];omega) (fun o ho=>List.mem_range.mp ho) fun x2 x3=> ?_
 ac_nf0
 rw [zeo]
 refine zi4 (ds:=(List.range n).filterMap (zkh S n)) (by simp) ?_
 rw [zeo]
 ac_nf0
 first | exact ⟨⟨_,rfl⟩,rfl⟩ | exact ⟨rfl,⟨_,rfl⟩⟩ | exact ⟨_,rfl⟩
theorem lrO (s:Stk m os):Ev (F_47 [zaK m os,.bl false]) (.lst (zid (So os) os.length)):=
 zqH false (by have:=s.len;omega) rfl fun b one hb ho=>zoL s hb ho
theorem lrT (s:Stk m os):Ev (F_47 [zaK m os,.bl true]) (.lst (zid (Sth os) m.toNat)):=
 zqH true (by have:=s.m1;omega) (by have:=s.m0;show m=_;omega) fun b one hb ho=>zqj s
noncomputable def zcp (S:Nat->Nat->Bool) (n one:Nat):List Nat:=(List.range n).filter fun b=>Rul S b one
noncomputable def kept (S:Nat->Nat->Bool) (n:Nat):List Nat:=(List.range n).filter fun one=>(zcp S n one).isEmpty
noncomputable def zbY (S:Nat->Nat->Bool) (n:Nat):List Nat:=(List.range n).filter fun one=> !(zcp S n one).isEmpty
noncomputable def zjU (S:Nat->Nat->Bool) (n one:Nat):D:= .tup [.int (one:Int),.int ((zcp S n one).headD 0:Int)]
theorem zli (S:Nat->Nat->Bool) (n:Nat):zid S n=(zbY S n).map (zjU S n):=by
 unfold zid zbY
 rw [<- zaE]
 refine congrArg (fun f=>List.filterMap f (List.range n)) (funext fun one=> ?_)
 unfold zkh zjU zcp
 cases (List.range n).filter fun b=>Rul S b one<;>rfl
structure Pre (S:Nat->Nat->Bool):Prop where
 rf: ∀ i,S i i=true
 tr: ∀ i j k,S i j=true->S j k=true->S i k=true
theorem zfV {S:Nat->Nat->Bool} {b j:Nat}:Rul S b j=true↔S j b=true/\(b<j\/S b j=false):=by
 unfold Rul
 rw [qaG,Bool.or_eq_true,qaD,Bool.not_eq_true']
theorem zrK {S:Nat->Nat->Bool} (p:Pre S) {b c d:Nat} (h1:Rul S b c=true) (h2:Rul S c d=true):Rul S b d=true:=by
 obtain ⟨a1,a2⟩:=zfV.mp h1
 obtain ⟨b1,b2⟩:=zfV.mp h2
 refine zfV.mpr ⟨p.tr _ _ _ b1 a1,?_⟩
 cases hbd:S b d with
 | false=>exact .inr rfl
 | true=>
  left
  have k1:S b c=true:=p.tr _ _ _ hbd b1
  have k2:S c d=true:=p.tr _ _ _ a1 hbd
  rw [k1] at a2
  rw [k2] at b2
  simp at a2 b2
  omega
theorem zqA {S:Nat->Nat->Bool} (p:Pre S) {b:Nat}:Rul S b b=false:=by
 cases h:Rul S b b with
 | false=>rfl
 | true=>
  obtain ⟨_,h2⟩:=zfV.mp h
  rw [p.rf b] at h2
  simp at h2
theorem zh1 {α:Type} {p q:α->Bool}: ∀ {xs:List α},(∀ x,p x=true->q x=true)->(∃ x∈xs,q x=true/\p x=false)->(xs.filter p).length<(xs.filter q).length
 | [],_,⟨x,hx,_⟩=>by cases hx
 | x::r,h,⟨y,hy,h1,h2⟩=>by
  have le: ∀ ys:List α,(ys.filter p).length<=(ys.filter q).length:=fun ys=>by
   induction ys with
   | nil=>exact qaV _
   | cons z t ih=>
    rw [List.filter_cons,List.filter_cons]
    cases hp:p z with
    | true=>rw [h z hp];simp only [if_true,qaE];omega
    | false=>
     cases hq:q z with
     | true=>simp only [qax,if_false,if_true,qaE];omega
     | false=>simpa using ih
  rw [List.filter_cons,List.filter_cons]
  rcases qaP.mp hy with rfl | hy
  ·rw [h1,h2]
   simp only [qax,if_false,if_true,qaE]
   have:=le r
   omega
  ·have ih:=zh1 (xs:=r) h ⟨y,hy,h1,h2⟩
   cases hp:p x with
   | true=>rw [h x hp];simp only [if_true,qaE];omega
   | false=>
    cases hq:q x with
    | true=>simp only [qax,if_false,if_true,qaE];omega
    | false=>simpa using ih
theorem unr {S:Nat->Nat->Bool} (p:Pre S) {n:Nat}: ∀ (k j:Nat),j<n->(zcp S n j).length<=k-> ∃ b∈kept S n,S j b=true
 | 0,j,hj,hk=>⟨j,List.mem_filter.mpr ⟨List.mem_range.mpr hj,by rw [List.isEmpty_iff];exact List.length_eq_zero_iff.mp (by omega)⟩,p.rf j⟩
 | k+1,j,hj,hk=>by
  cases hr:zcp S n j with
  | nil=>exact ⟨j,List.mem_filter.mpr ⟨List.mem_range.mpr hj,by rw [hr];rfl⟩,p.rf j⟩
  | cons b bs=>
   have hb:b∈zcp S n j:=by rw [hr];exact qau
   obtain ⟨hb1,hb2⟩:=List.mem_filter.mp hb
   have hlt:(zcp S n b).length<(zcp S n j).length:=zh1 (fun c hc=>zrK p hc hb2) ⟨b,hb1,hb2,zqA p⟩
   obtain ⟨c,hc,hs⟩:=unr p k b (List.mem_range.mp hb1) (by omega)
   exact ⟨c,hc,p.tr _ _ _ (zfV.mp hb2).1 hs⟩
theorem zlG {S:Nat->Nat->Bool} (p:Pre S) {n j:Nat} (hj:j<n): ∃ b∈kept S n,S j b=true:=unr p _ j hj (qaV _)
theorem zoc {xs:List Int}:inB xs xs=true:=zdF.mpr fun _ h=>h
theorem zoE {xs ys zs:List Int} (h1:inB xs ys=true) (h2:inB ys zs=true):inB xs zs=true:=zdF.mpr fun x hx=>zdF.mp h2 x (zdF.mp h1 x hx)
theorem zsX (os:List (List Int×Int)):Pre (So os) where
 rf:=fun i=>by unfold So soB;rw [zoc];simp
 tr:=fun i j k h1 h2=>by
  unfold So soB at*
  rw [qaG,qaD] at*
  exact ⟨by omega,zoE h1.2 h2.2⟩
theorem zoN (os:List (List Int×Int)):Pre (Sth os) where
 rf:=fun i=>zoc
 tr:=fun i j k h1 h2=>by unfold Sth at *; exact zoE h2 h1
theorem zde {S:Nat->Nat->Bool} {n j:Nat} (h:j∈kept S n):j<n:=List.mem_range.mp (List.mem_filter.mp h).1
theorem zks {S:Nat->Nat->Bool} {n:Nat}:(kept S n).Pairwise (· < ·):=List.pairwise_lt_range.filter _
def Ful (m:Int) (os:List (List Int×Int)):Prop:= ∀ t:Int,0<=t->t<m-> ∃ o∈os,t∈o.1
theorem zjk {t:Int} {o:List Int×Int}:zh9 t o=true↔t∈o.1:=by
 unfold zh9
 rw [List.any_eq_true]
 constructor
 ·rintro ⟨x,hx,e⟩
  rw [beq_iff_eq] at e
  exact e▸hx
 ·intro h
  exact ⟨t,h,by simp⟩
theorem zio (m0:0<=m):(zbD m os).isEmpty=true↔Ful m os:=by
 unfold zbD Ful
 rw [List.isEmpty_iff,List.filter_eq_nil_iff]
 constructor
 ·intro h t t0 t1
  have:=h t (qaU.mpr ⟨t.toNat,List.mem_range.mpr (by omega),by omega⟩)
  rw [List.isEmpty_iff] at this
  obtain ⟨o,ho⟩:=List.exists_mem_of_ne_nil _ this
  obtain ⟨h1,h2⟩:=List.mem_filter.mp ho
  exact ⟨o,h1,zjk.mp h2⟩
 ·intro h t ht
  obtain ⟨k,hk,rfl⟩:=qaU.mp ht
  have:=List.mem_range.mp hk
  obtain ⟨o,ho,hx⟩:=h (k:Int) (by omega) (by omega)
  rw [List.isEmpty_iff]
  exact List.ne_nil_of_mem (List.mem_filter.mpr ⟨ho,zjk.mpr hx⟩)
noncomputable def nar (T:List Nat) (xs:List Int):List Int:=((List.range T.length).filter fun p=>xs.any (· == (T.getD p 0:Int))).map fun (p:Nat)=>(p:Int)
noncomputable def zdQ (os:List (List Int×Int)) (T N:List Nat):List (List Int×Int):=N.map fun j=>(nar T (os.getD j ([],0)).1,(os.getD j ([],0)).2)
theorem zok {T:List Nat} {xs:List Int}:(nar T xs).Pairwise (· < ·):=by
 unfold nar
 rw [List.pairwise_map]
 exact (List.pairwise_lt_range.filter _).imp fun h=>by omega
theorem zfL {T:List Nat} {xs:List Int} {p:Int}:p∈nar T xs↔ ∃ k:Nat,p=(k:Int)/\k<T.length/\(T.getD k 0:Int)∈xs:=by
 unfold nar
 rw [qaU]
 constructor
 ·rintro ⟨k,hk,rfl⟩
  obtain ⟨h1,h2⟩:=List.mem_filter.mp hk
  exact ⟨k,rfl,List.mem_range.mp h1,by
    obtain ⟨x,hx,e⟩:=List.any_eq_true.mp h2
    rw [beq_iff_eq] at e
    exact e▸hx⟩
 ·rintro ⟨k,rfl,h1,h2⟩
  exact ⟨k,List.mem_filter.mpr ⟨List.mem_range.mpr h1,List.any_eq_true.mpr ⟨_,h2,by simp⟩⟩,rfl⟩
theorem zkD {n:Nat} {xs:List Int} (hu:xs.Pairwise (· < ·)) (hb: ∀ x∈xs,0<=x/\x<(n:Int)):nar (List.range n) xs=xs:=by
 refine zmX zok hu fun t=> ?_
 rw [zfL]
 constructor
 ·rintro ⟨k,rfl,h1,h2⟩
  rw [List.length_range] at h1
  simpa [List.getD,h1] using h2
 ·intro ht
  have:=hb t ht
  refine ⟨t.toNat,by omega,by rw [List.length_range];omega,?_⟩
  have h1:t.toNat<n:=by omega
  have e:((List.range n).getD t.toNat 0:Int)=t:=by
   simp [List.getD,h1]
   omega
  rw [e]
  exact ht
noncomputable def O1 (os:List (List Int×Int)):List Nat:=kept (So os) os.length
noncomputable def R1 (os:List (List Int×Int)):List (List Int×Int):=(O1 os).map fun j=>os.getD j ([],0)
noncomputable def T1 (m:Int) (os:List (List Int×Int)):List Nat:=kept (Sth (R1 os)) m.toNat
noncomputable def N1 (m:Int) (os:List (List Int×Int)):List Nat:=(O1 os).filter fun j=> !(nar (T1 m os) (os.getD j ([],0)).1).isEmpty
theorem zeh {j:Nat} (h:j<os.length):os.getD j ([],0)∈os:=by simp [List.getD,h]
theorem zmm (s:Stk m os):zdQ os (List.range m.toNat) (O1 os)=R1 os:=by
 have m0:=s.m0
 unfold zdQ R1
 refine List.map_congr_left fun j hj=> ?_
 have mo:=zeh (os:=os) (zde hj)
 rw [zkD (s.up _ mo) fun x hx=>by have:=s.bd _ mo x hx;omega]
theorem zoy (s:Stk m os):Stk m (R1 os):=by
 have hm: ∀ o∈R1 os,o∈os:=fun o ho=>by
  obtain ⟨j,hj,rfl⟩:=qaU.mp ho
  exact zeh (zde hj)
 refine ⟨s.m0,s.m1,?_,fun o ho=>s.up o (hm o ho),fun o ho=>s.bd o (hm o ho),fun o ho=>s.ne o (hm o ho),fun o ho=>s.pos o (hm o ho)⟩
 unfold R1 O1 kept
 rw [qaH]
 exact qaS (List.length_filter_le _ _) (by rw [List.length_range];exact s.len)
theorem zn7 (hf:Ful m os):Ful m (R1 os):=fun t t0 t1=>by
 obtain ⟨o,ho,hx⟩:=hf t t0 t1
 obtain ⟨j,hj,rfl⟩:=List.mem_iff_getElem.mp ho
 obtain ⟨b,hb,hs⟩:=zlG (zsX os) hj
 refine ⟨os.getD b ([],0),qaU.mpr ⟨b,hb,rfl⟩,?_⟩
 unfold So soB at hs
 rw [qaG] at hs
 refine zdF.mp hs.2 t ?_
 simpa [List.getD,hj] using hx
theorem zsN (s:Stk m os):0<(T1 m os).length:=by
 have m0:=s.m0
 obtain ⟨b,hb,_⟩:=zlG (zoN (R1 os)) (n:=m.toNat) (j:=0) (by omega)
 exact List.length_pos_of_mem hb
theorem zmJ:(T1 m os).length<=m.toNat:=by
 have:=List.length_filter_le (fun one=>(zcp (Sth (R1 os)) m.toNat one).isEmpty) (List.range m.toNat)
 rw [List.length_range] at this
 exact this
theorem znD:(O1 os).length<=os.length:=by
 have:=List.length_filter_le (fun one=>(zcp (So os) os.length one).isEmpty) (List.range os.length)
 rw [List.length_range] at this
 exact this
theorem zk2:(N1 m os).length<=os.length:=qaS (List.length_filter_le _ _) znD
theorem ziH {j:Nat} (h:j∈N1 m os):j<os.length:=zde (List.mem_filter.mp h).1
theorem zte:(N1 m os).Pairwise (· < ·):=zks.filter _
noncomputable def osN (m:Int) (os:List (List Int×Int)):List (List Int×Int):=zdQ os (T1 m os) (N1 m os)
theorem zmA (s:Stk m os):Stk ((T1 m os).length:Int) (osN m os):=by
 have m1:=s.m1
 have tl:=zmJ (m:=m) (os:=os)
 have tp:=zsN s
 have hm: ∀ o∈osN m os, ∃ j∈N1 m os,o=(nar (T1 m os) (os.getD j ([],0)).1,(os.getD j ([],0)).2):=fun o ho=>by
  obtain ⟨j,hj,rfl⟩:=qaU.mp ho
  exact ⟨j,hj,rfl⟩
 refine ⟨by omega,by omega,?_,fun o ho=> ?_,fun o ho x hx=> ?_,fun o ho=> ?_,fun o ho=> ?_⟩
 ·unfold osN zdQ
  rw [qaH]
  exact qaS zk2 s.len
 ·obtain ⟨j,hj,rfl⟩:=hm o ho
  exact zok
 ·obtain ⟨j,hj,rfl⟩:=hm o ho
  obtain ⟨k,rfl,h1,_⟩:=zfL.mp hx
  omega
 ·obtain ⟨j,hj,rfl⟩:=hm o ho
  have:=(List.mem_filter.mp hj).2
  intro z
  have z:nar (T1 m os) (os.getD j ([],0)).1=[]:=z
  rw [z] at this
  cases this
 ·obtain ⟨j,hj,rfl⟩:=hm o ho
  exact s.pos (os.getD j ([],0)) (zeh (ziH hj))
theorem zmz (s:Stk m os) (hf:Ful m os):Ful ((T1 m os).length:Int) (osN m os):=fun t t0 t1=>by
 have m0:=s.m0
 have hk:t.toNat<(T1 m os).length:=by omega
 have hT:(T1 m os).getD t.toNat 0∈T1 m os:=by simp [List.getD,hk]
 have hlt:=zde hT
 obtain ⟨o,ho,hx⟩:=zn7 hf ((T1 m os).getD t.toNat 0:Int) (by omega) (by omega)
 obtain ⟨j,hj,rfl⟩:=qaU.mp ho
 have hn:t∈nar (T1 m os) (os.getD j ([],0)).1:=zfL.mpr ⟨t.toNat,by omega,hk,hx⟩
 refine ⟨_,qaU.mpr ⟨j,List.mem_filter.mpr ⟨hj,?_⟩,rfl⟩,hn⟩
 cases hz:nar (T1 m os) (os.getD j ([],0)).1 with
 | nil=>rw [hz] at hn;cases hn
 | cons _ _=>rfl
theorem zdH {α:Type} {p:α->Bool} {xs:List α} (h:(xs.filter p).length=xs.length):xs.filter p=xs:=List.filter_eq_self.mpr (List.length_filter_eq_length_iff.mp h)
theorem zpD (h:(T1 m os).length=m.toNat):T1 m os=List.range m.toNat:=zdH (by rw [List.length_range];exact h)
theorem zpa (h:(N1 m os).length=os.length):N1 m os=List.range os.length:=by
 have h1:=List.length_filter_le (fun j=> !(nar (T1 m os) (os.getD j ([],0)).1).isEmpty) (O1 os)
 have h2:=znD (os:=os)
 have h:((O1 os).filter fun j=> !(nar (T1 m os) (os.getD j ([],0)).1).isEmpty).length=os.length:=h
 have e1:O1 os=List.range os.length:=zdH (by rw [List.length_range];show (O1 os).length=_;omega)
 have e2:N1 m os=O1 os:=zdH (by omega)
 rw [e2,e1]
theorem zne {S:Nat->Nat->Bool} {n one:Nat} (h:one<n):(cI (zbY S n)).any (· == (one:Int))= !(zcp S n one).isEmpty:=by
 rw [znT,Bool.eq_iff_iff,zgy]
 unfold zbY
 rw [List.mem_filter]
 exact ⟨fun z=>z.2,fun z=>⟨List.mem_range.mpr h,z⟩⟩
theorem zfQ {fi:FA} {src:List (Option Nat)} {sd:Sd} {tc:FT} {te:FE} {S:Nat->Nat->Bool} {n:Nat} (ht:tc=zc4 zd0 (zaf 0) (zaf 1)) (he:te=zaf 0) (hn:n<=500) (hi:fi sd=pure ((List.range n).map fun (j:Nat)=> .int (j:Int))) (eb:zaq src sd=[none,some (.lst ((cI (zbY S n)).map D.int))]):
  zao fi (zaw 0) tc te src sd=pure (.lst ((cI (kept S n)).map D.int)):=by
 rw [zcw]
 unfold kept
 rw [<- zaE]
 refine zax (g':=fun (j:Nat)=> .int (j:Int)) hi (by simp;omega) fun j hj=> ?_
 rw [eb,ht,he]
 simp only [za2]
 ac_nf0
 rw [zec,zne (List.mem_range.mp hj)]
 ac_nf0
 simp only [Bool.not_not]
 split<;>rfl
theorem zkB {S:Nat->Nat->Bool} {n:Nat} (hn:n<=500):F_35 [.int (n:Int),.lst (zid S n)]=pure (.lst ((cI (kept S n)).map D.int)):=by
 have gl:(zbY S n).length<=n:=by
  have:=List.length_filter_le (fun one=> !(zcp S n one).isEmpty) (List.range n)
  rw [List.length_range] at this
  exact this
 have e1:zao (iSq (zaf 1)) (zaw 0) (fun _=>pure true) zc5 [none] [some (.int (n:Int)),some (.lst (zid S n)),none]=pure (.lst ((cI (zbY S n)).map D.int)):=by
  rw [zcw,show (zbY S n).map (fun (j:Nat)=>D.int (j:Int))=(zbY S n).filterMap fun (j:Nat)=>some (.int (j:Int)) by simp]
  refine zax (g':=zjU S n) (by ac_nf0;rw [zli]) (by omega) fun j _=> ?_
  have eb:zaq [none] [some (.int (n:Int)),some (.lst (zid S n)),none]=[none]:=rfl
  rw [eb]
  simp only [za2,zc5,zjU]
  ac_nf0
 have e2:zao (zfh (zac (zaf 0) zak)) (zaw 0) zep zej [none,some 2] [some (.int (n:Int)),some (.lst (zid S n)),some (.lst ((cI (zbY S n)).map D.int))]=pure (.lst ((cI (kept S n)).map D.int)):=by
  refine zfQ rfl rfl hn ?_ rfl
  ac_nf0
  rw [zbQ (by omega) (by omega),qaB,zbp,qaT]
  rfl
 rw [d_35]
 simp only [G_35]
 ac_nf0
 rw [e1]
 ac_nf0
 rw [e2]
 ac_nf0
theorem zrO {T:List Nat}:zhn ((cI T).map D.int)=(List.range T.length).map fun (p:Nat)=> .tup [.int (p:Int),.int (T.getD p 0:Int)]:=by
 unfold zhn
 rw [qaH,zgu]
 refine List.map_congr_left fun p hp=> ?_
 have:=List.mem_range.mp hp
 simp [cI,List.getD,this]
theorem zjc {fi:FA} {src:List (Option Nat)} {sd:Sd} {tc:FT} {te:FE} {T:List Nat} {xs:List Int} (he:te=zaf 0) (hT:T.length<=1000) (hi:fi sd=pure (zhn ((cI T).map D.int))) (eb: ∃ d,zaq src sd=[none,none,some d]/\ ∀ p t:Int,tc [some (.int p),some (.int t),some d]=pure (xs.any (· == t))):
  zao fi (zbO 2 (zau (zaw 0) (zau (zaw 1) zbP))) tc te src sd=pure (.lst ((nar T xs).map D.int)):=by
 obtain ⟨d,eb,et⟩:=eb
 unfold nar
 rw [qaT, <-zaE]
 refine zax (g':=fun (p:Nat)=> .tup [.int (p:Int),.int (T.getD p 0:Int)]) (by rw [hi,zrO]) (by simpa using hT) fun p _=> ?_
 rw [eb,he]
 simp only [za2]
 ac_nf0
 rw [et]
 ac_nf0
 split<;>rfl
theorem zfs {o:List Int×Int} {T:List Nat} (hT:T.length<=1000):F_19 [zbt o,.lst ((cI T).map D.int)]=pure (tI (nar T o.1)):=by
 have e1:zao (zkC (zaf 1)) (zbO 2 (zau (zaw 0) (zau (zaw 1) zbP))) zdD zeZ [none,none,some 0] [some (zbt o),some (.lst ((cI T).map D.int))]=pure (.lst ((nar T o.1).map D.int)):=by
  refine zjc rfl hT rfl ⟨zbt o,rfl,fun p t=> ?_⟩
  simp only [zdD]
  ac_nf0
  rw [zel]
  ac_nf0
 rw [d_19]
 simp only [G_19]
 ac_nf0
 simp only [zbt,tI] at e1
 rw [e1]
 ac_nf0
theorem zlE (s:Stk m os) {T N:List Nat} (hT:T.length<=1000) (hN: ∀ j∈N,j<os.length) (hl:N.length<=1000):F_18 [zaK m os,.lst ((cI T).map D.int),.lst ((cI N).map D.int)]=pure (zaK (T.length:Int) (zdQ os T N)):=by
 have e1:zao (iSq (zaf 2)) (zaw 0) (fun _=>pure true) zd7 [none,some 0] [some (zaK m os),some (.lst ((cI T).map D.int)),some (.lst ((cI N).map D.int)),none]=pure (.lst ((N.map fun j=>os.getD j ([],0)).map zbt)):=by
  rw [qaT,show N.map (zbt∘fun j=>os.getD j ([],0))=N.filterMap fun j=>some (zbt (os.getD j ([],0))) by simp [Function.comp_def]]
  refine zax (g':=fun (j:Nat)=> .int (j:Int)) (by ac_nf0;rw [zcw]) hl fun j hj=> ?_
  have eb:zaq [none,some 0] [some (zaK m os),some (.lst ((cI T).map D.int)),some (.lst ((cI N).map D.int)),none]=[none,some (zaK m os)]:=rfl
  have eo:=zda (os:=os) (i:=(j:Int)) (by omega) (by have:=hN j hj;omega)
  rw [qaB] at eo
  rw [eb]
  simp only [za2,zd7]
  ac_nf0
  rw [zhf]
  ac_nf0
  rw [eo]
  ac_nf0
 have e2:zao (iSq (zaf 3)) (zaw 0) (fun _=>pure true) zd3 [none,some 1] [some (zaK m os),some (.lst ((cI T).map D.int)),some (.lst ((cI N).map D.int)),some (.lst ((N.map fun j=>os.getD j ([],0)).map zbt))]=pure (.lst ((zdQ os T N).map zbt)):=by
  rw [show (zdQ os T N).map zbt=(N.map fun j=>os.getD j ([],0)).filterMap fun o=>some (zbt (nar T o.1,o.2)) by unfold zdQ;simp [Function.comp_def]]
  refine zax (g':=zbt) rfl (by rw [qaH];exact hl) fun o _=> ?_
  have eb:zaq [none,some 1] [some (zaK m os),some (.lst ((cI T).map D.int)),some (.lst ((cI N).map D.int)),some (.lst ((N.map fun j=>os.getD j ([],0)).map zbt))]=[none,some (.lst ((cI T).map D.int))]:=rfl
  have en:=zfs (o:=o) hT
  rw [eb]
  simp only [za2,zd3]
  simp only [zbt,tI] at en ⊢
  ac_nf0
  rw [en]
  ac_nf0
 rw [d_18]
 simp only [G_18]
 ac_nf0
 rw [e1]
 ac_nf0
 simp only [qaT] at e2
 simp only [qaT]
 rw [e2]
 ac_nf0
 rw [zgu]
 rfl
theorem zhY (s:Stk m os) {T:List Nat} (hT:T.length<=1000) {c:Nat} {s2:Option D}: ∀ (js:List Nat) {h:Hh} {rs:List (List Int×Int)} {x4 x5 x6:Option D} {P:Out->Hh->Prop},h[c]? = some (.lst (rs.map zbt))->rs.length+js.length<=1000->(∀ j∈js,j<os.length)->
  (∀ y4 y5 y6,P (.nx [some (zaK m os),some (.lst ((cI T).map D.int)),s2,some (.cel c),y4,y5,y6]) (h.set c (.lst ((rs++zdQ os T js).map zbt))))->
  wp (zbc (fun x sd=>do let sd1<-zaw 4 x sd;zcf sd1) (js.map fun (j:Nat)=> .int (j:Int)) [some (zaK m os),some (.lst ((cI T).map D.int)),s2,some (.cel c),x4,x5,x6]) h P
 | [],h,rs,x4,x5,x6,P,e,hl,hj,k=>by
  rw [List.map_nil,zcy,zam]
  have:=k x4 x5 x6
  rw [show zdQ os T []=[] from rfl,List.append_nil,zgF e] at this
  exact this
 | j::r,h,rs,x4,x5,x6,P,e,hl,hj,k=>by
  have hln:=(qac.mp e).1
  rw [qaE] at hl
  have hjn:=hj j qau
  have eo:=zda (os:=os) (i:=(j:Int)) (by omega) (by omega)
  rw [qaB] at eo
  have ih:=fun (x4 x5 x6:Option D)=>zhY s hT (c:=c) (s2:=s2) r (h:=h.set c (.lst ((rs++[(nar T (os.getD j ([],0)).1,(os.getD j ([],0)).2)]).map zbt))) (rs:=rs++[(nar T (os.getD j ([],0)).1,(os.getD j ([],0)).2)]) (x4:=x4) (x5:=x5) (x6:=x6) (P:=P) (qai hln) (by simp;omega) (fun y hy=>hj y (qan _ hy)) fun a b d=>by
   have:=k a b d
   rw [List.set_set,List.append_assoc]
   exact this
  have f1:=zaL (show rs.length+1<=1000 by omega)
  generalize os.getD j ([],0)=o at ih eo
  have e1:zao (zkC (zaf 1)) (zbO 2 (zau (zaw 0) (zau (zaw 1) zbP))) zdg zen [none,none,some 5] [some (zaK m os),some (.lst ((cI T).map D.int)),s2,some (.cel c),some (.int (j:Int)),some (.tup (o.1.map D.int)),some (.int o.2)]=pure (.lst ((nar T o.1).map D.int)):=by
   refine zjc rfl hT rfl ⟨.tup (o.1.map D.int),rfl,fun p t=> ?_⟩
   simp only [zdg]
   ac_nf0
   rw [zel]
   ac_nf0
  rw [qaM,zcr]
  generalize zbc (fun x sd=>do let sd1<-zaw 4 x sd;zcf sd1) (r.map fun (j:Nat)=> .int (j:Int))=rest at ih ⊢
  simp only [zbt,tI,List.map_append,qaM,List.map_nil] at ih eo
  simp only [zcf]
  ac_nf0
  rw [zhf]
  ac_nf0
  rw [eo]
  ac_nf0
  simp only [zbk,zck,zbr,zbe,zaY,pure_bind,bind_assoc,zas,zbd e,zam]
  ac_nf0
  rw [e1]
  ac_nf0
  simp only [zbd e,zas,zam,qaH,f1,zdW,pure_bind,zck,zbr]
  ac_nf0
  exact ih _ _ _
theorem zlw (s:Stk m os) {T N:List Nat} (hT:T.length<=1000) (hN: ∀ j∈N,j<os.length) (hl:N.length<=1000):Ev (F_48 [zaK m os,.lst ((cI T).map D.int),.lst ((cI N).map D.int)]) (zaK (T.length:Int) (zdQ os T N)):=by
 refine .of_wp fun h=> ?_
 rw [d_48]
 simp only [G_48]
 ac_nf0
 rw [show (cI N).map D.int=N.map fun (j:Nat)=> .int (j:Int) from zcw N]
 refine zhY s hT (c:=h.length) N (h:=h++[.lst []]) (rs:=[]) (by simp) (by simpa using hl) hN fun y4 y5 y6=> ?_
 ac_nf0
 rw [zeo,zlY]
 simp only [bind_assoc,zas]
 rw [zbd (ds:=(zdQ os T N).map zbt) (by simp)]
 ac_nf0
 rw [zgu]
 first | exact ⟨rfl,⟨_,rfl⟩⟩ | exact ⟨⟨_,rfl⟩,rfl⟩
structure Sy where
 m:Int
 os:List (List Int×Int)
 ts:List Int
 ns:List Int
noncomputable def nxt (x:Sy):Sy:=⟨((T1 x.m x.os).length:Int),osN x.m x.os,(T1 x.m x.os).map fun j=>x.ts.getD j 0,(N1 x.m x.os).map fun j=>x.ns.getD j 0⟩
noncomputable def zaV (x:Sy):D:= .tup [zaK x.m x.os,tI x.ts,tI x.ns]
structure In (x:Sy):Prop where
 s:Stk x.m x.os
 f:Ful x.m x.os
 tl:x.ts.length=x.m.toNat
 nl:x.ns.length=x.os.length
 td:x.ts.Nodup
 nd:x.ns.Nodup
noncomputable def zf6 (x:Sy):Bool:=(T1 x.m x.os).length==x.m.toNat && (N1 x.m x.os).length==x.os.length
noncomputable def siz (x:Sy):Nat:=x.m.toNat+x.os.length
theorem znx {m:Int} {os:List (List Int×Int)} {j:Nat} (h:j∈T1 m os):j<m.toNat:=zde h
theorem In.next {x:Sy} (i:In x):In (nxt x) where
 s:=zmA i.s
 f:=zmz i.s i.f
 tl:=by unfold nxt;simp
 nl:=by unfold nxt osN zdQ;simp
 td:=zgs i.td zks fun j hj=>by rw [i.tl];exact znx hj
 nd:=zgs i.nd zte fun j hj=>by rw [i.nl];exact ziH hj
theorem zp2 {x:Sy} (i:In x) (h:zf6 x=true):nxt x=x:=by
 unfold zf6 at h
 rw [qaG,beq_iff_eq,beq_iff_eq] at h
 have m0:=i.s.m0
 have e1:=zpD h.1
 have e2:=zpa h.2
 have e3:osN x.m x.os=x.os:=by
  unfold osN zdQ
  rw [e1,e2]
  refine Eq.trans (List.map_congr_left fun j hj=> ?_) (zff (d:=([],0)))
  have mo:=zeh (os:=x.os) (List.mem_range.mp hj)
  rw [zkD (i.s.up _ mo) fun t ht=>by have:=i.s.bd _ mo t ht;omega]
 have e4:(T1 x.m x.os).map (fun j=>x.ts.getD j 0)=x.ts:=by
  rw [e1, <-i.tl]
  exact zff
 have e5:(N1 x.m x.os).map (fun j=>x.ns.getD j 0)=x.ns:=by
  rw [e2, <-i.nl]
  exact zff
 unfold nxt
 rw [e3,e4,e5,h.1]
 have e6:((x.m.toNat:Nat):Int)=x.m:=by omega
 rw [e6]
theorem zn4 {x:Sy} (h:zf6 x=false):siz (nxt x)<siz x:=by
 unfold zf6 at h
 have h1:=zmJ (m:=x.m) (os:=x.os)
 have h2:=zk2 (m:=x.m) (os:=x.os)
 have e1:(nxt x).m.toNat=(T1 x.m x.os).length:=by unfold nxt;simp
 have e2:(nxt x).os.length=(N1 x.m x.os).length:=by unfold nxt osN zdQ;simp
 unfold siz
 rw [e1,e2]
 rw [Bool.and_eq_false_iff,beq_eq_false_iff_ne,beq_eq_false_iff_ne] at h
 omega
noncomputable def pdS (x:Sy):PyData:= .tuple [.tuple [.int x.m,.tuple (x.os.map pdO)],.tuple (x.ts.map PyData.int),.tuple (x.ns.map PyData.int)]
theorem zkU (x:Sy):pd (zaV x)=some (pdS x):=by
 simp only [zaV,zaK,tI,pd,pdL,zis,zbv,Option.map,pdS]
theorem ziT (x:Sy):(pdS x).canLay0=true:=by simp [pdS,PyData.canLay0,PyData.canLayAll0,zaP,zgB]
theorem zjo (x:Sy):(pdS x).depth<=10:=by
 have:=zl0 x.os
 simp only [pdS,PyData.depth,PyData.depthAll,zaX]
 omega
theorem zqn (x y:Sy):zg9 (pdS x) (pdS y)=true:=by
 have h1:=zjo x
 have h2:=zjo y
 unfold zg9
 rw [ziT,ziT]
 simp
 omega
theorem zmU (x:Sy):PyData.eqv (pdS x) (pdS x)=true:=by
 simp [pdS,PyData.eqv,PyData.eqvAll,zcD,zjf]
theorem zpJ {x:Sy} (i:In x):dNe (zaV (nxt x)) (zaV x)=pure (.bl (!zf6 x)):=by
 rw [zhM (zkU _) (zkU _) (zqn _ _)]
 cases h:zf6 x with
 | true=>
  rw [zp2 i h,zmU]
 | false=>
  have hd:((nxt x).ts==x.ts && (nxt x).ns==x.ns)=false:=by
   cases hz:((nxt x).ts==x.ts && (nxt x).ns==x.ns) with
   | false=>rfl
   | true=>
    rw [qaG,beq_iff_eq,beq_iff_eq] at hz
    have l1:=congrArg List.length hz.1
    have l2:=congrArg List.length hz.2
    have l3:(nxt x).ts.length=(T1 x.m x.os).length:=by unfold nxt;simp
    have l4:(nxt x).ns.length=(N1 x.m x.os).length:=by unfold nxt;simp
    rw [l3,i.tl] at l1
    rw [l4,i.nl] at l2
    unfold zf6 at h
    rw [l1,l2] at h
    simp at h
  have e:PyData.eqv (pdS (nxt x)) (pdS x)=false:=by
   simp only [pdS,PyData.eqv,PyData.eqvAll,zcD,Bool.and_true]
   rw [hd,Bool.and_false]
  rw [e]
theorem zhK {x:Sy} (i:In x):Ev (F_34 [zaV x]) (zaV (nxt x)):=by
 obtain ⟨m,os,ts,ns⟩:=x
 have s:=i.s
 have tl:=i.tl
 have nl:=i.nl
 simp only at s tl nl
 have m0:=s.m0
 have m1:=s.m1
 have ol:=s.len
 have o1l:=znD (os:=os)
 have t1l:=zmJ (m:=m) (os:=os)
 have n1l:=zk2 (m:=m) (os:=os)
 have hf:=(zio (m:=m) (os:=os) (by omega)).mpr i.f
 have hf1:=(zio (m:=m) (os:=R1 os) (by omega)).mpr (zn7 i.f)
 have e1:=zkB (S:=So os) (n:=os.length) (by omega)
 have e2:=zkB (S:=Sth (R1 os)) (n:=m.toNat) (by omega)
 have e3:=zlE s (T:=List.range m.toNat) (N:=O1 os) (by simp;omega) (fun j hj=>zde hj) (by omega)
 rw [zmm s,List.length_range,show ((m.toNat:Nat):Int)=m by omega] at e3
 rw [show ((m.toNat:Nat):Int)=m by omega] at e2
 have e4:=zlE s (T:=T1 m os) (N:=N1 m os) (by omega) (fun j hj=>ziH hj) (by omega)
 have e5:=zeq (n:=m.toNat) (by omega)
 rw [show ((m.toNat:Nat):Int)=m by omega] at e5
 have e6:zao (iSq (zaf 2)) (zaw 0) zcd zb8 [none,some 1,some 4] [some (zaV ⟨m,os,ts,ns⟩),some (zaK m os),some (.lst ((cI (O1 os)).map D.int)),some (.lst ((cI (List.range m.toNat)).map D.int)),some (.lst ((cI (T1 m os)).map D.int)),none,none]=pure (.lst ((cI (N1 m os)).map D.int)):=by
  rw [zcw (N1 m os)]
  unfold N1
  rw [<- zaE]
  refine zax (g':=fun (j:Nat)=> .int (j:Int)) (by ac_nf0;rw [zcw]) (by omega) fun j hj=> ?_
  have eb:zaq [none,some 1,some 4] [some (zaV ⟨m,os,ts,ns⟩),some (zaK m os),some (.lst ((cI (O1 os)).map D.int)),some (.lst ((cI (List.range m.toNat)).map D.int)),some (.lst ((cI (T1 m os)).map D.int)),none,none]=[none,some (zaK m os),some (.lst ((cI (T1 m os)).map D.int))]:=rfl
  have hjl:=zde hj
  have eo:=zda (os:=os) (i:=(j:Int)) (by omega) (by omega)
  rw [qaB] at eo
  have en:=zfs (o:=os.getD j ([],0)) (T:=T1 m os) (by omega)
  rw [eb]
  simp only [za2,zcd,zb8]
  generalize os.getD j ([],0)=o at eo en ⊢
  simp only [L3.znU,zs7]
  simp only [zbt,tI] at eo en
  ac_nf0
  rw [zhf]
  ac_nf0
  rw [eo]
  ac_nf0
  rw [en]
  simp only [zkT]
  ac_nf0
  simp only [List.isEmpty_map]
  split<;>rfl
 have e7: ∀ {sd:Sd},zaq [none,some 0] sd=[none,some (zaV ⟨m,os,ts,ns⟩)]->sd[4]? = some (some (.lst ((cI (T1 m os)).map D.int)))->zao (iSq (zaf 4)) (zaw 0) (fun _=>pure true) zb9 [none,some 0] sd=pure (.lst (((T1 m os).map fun j=>ts.getD j 0).map D.int)):=fun {sd} eb h4=>by
  rw [qaT,show (T1 m os).map (D.int∘fun j=>ts.getD j 0)=(T1 m os).filterMap fun j=>some (.int (ts.getD j 0)) by simp [Function.comp_def]]
  refine zax (g':=fun (j:Nat)=> .int (j:Int)) ?_ (by omega) fun j hj=> ?_
  ·have:zaf 4 sd=pure (.lst ((cI (T1 m os)).map D.int)):=by
    unfold zaf
    rw [h4]
   ac_nf0
   rw [this]
   ac_nf0
   rw [zcw]
  ·have hjl:=znx hj
   have ea:=zfd (xs:=ts) (j:=j) (by omega)
   have e0:dIx (zaV ⟨m,os,ts,ns⟩) (.int 1)=pure (.tup (ts.map D.int)):=rfl
   rw [eb]
   simp only [za2,zb9]
   ac_nf0
   rw [e0]
   ac_nf0
   rw [ea]
   ac_nf0
 have e8: ∀ {sd:Sd},zaq [none,some 0] sd=[none,some (zaV ⟨m,os,ts,ns⟩)]->sd[2]? = some (some (.lst ((cI (N1 m os)).map D.int)))->zao (iSq (zaf 2)) (zaw 0) (fun _=>pure true) zcc [none,some 0] sd=pure (.lst (((N1 m os).map fun j=>ns.getD j 0).map D.int)):=fun {sd} eb h4=>by
  rw [qaT,show (N1 m os).map (D.int∘fun j=>ns.getD j 0)=(N1 m os).filterMap fun j=>some (.int (ns.getD j 0)) by simp [Function.comp_def]]
  refine zax (g':=fun (j:Nat)=> .int (j:Int)) ?_ (by omega) fun j hj=> ?_
  ·have:zaf 2 sd=pure (.lst ((cI (N1 m os)).map D.int)):=by
    unfold zaf
    rw [h4]
   ac_nf0
   rw [this]
   ac_nf0
   rw [zcw]
  ·have hjl:=ziH hj
   have ea:=zfd (xs:=ns) (j:=j) (by omega)
   have e0:dIx (zaV ⟨m,os,ts,ns⟩) (.int 2)=pure (.tup (ns.map D.int)):=rfl
   rw [eb]
   simp only [za2,zcc]
   ac_nf0
   rw [e0]
   ac_nf0
   rw [ea]
   ac_nf0
 have e0:dIx (zaV ⟨m,os,ts,ns⟩) (.int 0)=pure (zaK m os):=rfl
 refine .of_wp fun h=> ?_
 rw [d_34]
 simp only [G_34]
 ac_nf0
 rw [e0]
 ac_nf0
 rw [zhf]
 ac_nf0
 refine (ztY s hf).wp fun h1 g1=> ?_
 ac_nf0
 rw [e1]
 ac_nf0
 rw [zoA]
 ac_nf0
 rw [e5]
 ac_nf0
 rw [show kept (So os) os.length=O1 os from rfl,e3]
 ac_nf0
 refine (zs8 (zoy s) hf1).wp fun h2 g2=> ?_
 ac_nf0
 rw [e2]
 ac_nf0
 rw [show kept (Sth (R1 os)) m.toNat=T1 m os from rfl,e6]
 ac_nf0
 rw [e7 rfl rfl]
 ac_nf0
 rw [e8 rfl rfl]
 ac_nf0
 rw [e4]
 ac_nf0
 have g3:=g1.trans g2
 first | exact ⟨rfl,g3⟩ | exact ⟨g3,rfl⟩ | exact g3
noncomputable def zf5:Nat->Sy->List Sy
 | 0,_=>[]
 | f+1,x=>if zf6 x=true then [] else x::zf5 f (nxt x)
noncomputable def zdm:Nat->Sy->Sy
 | 0,x=>x
 | f+1,x=>if zf6 x=true then x else zdm f (nxt x)
theorem zlR {x:Sy} (i:In x):0<siz x:=by
 have:=i.s.m0
 unfold siz
 omega
theorem zjm: ∀ (f:Nat) {x:Sy},In x-> ∀ y∈zf5 f x++[zdm f x],In y
 | 0,x,i,y,hy=>by
  rw [zf5,zdm] at hy
  have:y=x:=by simpa using hy
  exact this▸i
 | f+1,x,i,y,hy=>by
  rw [zf5,zdm] at hy
  split at hy
  ·have:y=x:=by simpa using hy
   exact this▸i
  ·rcases qaP.mp hy with rfl | hy
   ·exact i
   ·exact zjm f i.next y hy
theorem zjH {x:Sy} (i:In x) {c:Nat} {done:List Sy} {s0:Option D} {h:Hh} {P:Bool->Hh->Prop} (e:h[c]? = some (.lst ((done++[x]).map zaV))) (k:P (!zf6 x) h):wp (zaZ [s0,some (.cel c),some (zaV (nxt x))]) h P:=by
 have en:=zpJ i
 have ea:atI ((done++[x]).map zaV) (-1)=some (zaV x):=by
  rw [List.map_append]
  exact zgQ
 simp only [zaZ]
 generalize zaV (nxt x)=d1 at en ⊢
 ac_nf0
 simp only [znE,bind_assoc,zas,zbd e,ea,zir,zam]
 rw [en]
 ac_nf0
 exact k
theorem zkc {c:Nat} {s0:Option D} (f:Nat): ∀ {x:Sy} {done:List Sy} {h:Hh} {P:Out->Hh->Prop} (N:Nat),In x->siz x<=f->f<N->done.length+f<=500->h[c]? = some (.lst ((done++[x]).map zaV))->
  (∀ y2 h',(∀ j,j<h.length->j≠c->h'[j]? = h[j]?)->h.length<=h'.length->h'[c]? = some (.lst ((done++(zf5 f x++[zdm f x])).map zaV))->P (.nx [s0,some (.cel c),y2]) h')->
  wp (zeC zaZ za8 N [s0,some (.cel c),some (zaV (nxt x))]) h P:=by
 induction f with
 | zero=>
  intro x done h P N i hs
  have:=zlR i
  omega
 | succ f ih=>
  intro x done h P N i hs hN hd e k
  obtain ⟨N,rfl⟩: ∃ N',N=N'+1:=⟨N - 1,by omega⟩
  rw [zix,zas]
  refine zjH i e ?_
  rw [zf5,zdm] at k
  cases hsm:zf6 x with
  | true=>
   rw [hsm] at k
   simp only [if_true] at k
   ac_nf0
   exact k _ h (fun _ _ _=>rfl) (qaV _) e
  | false=>
   rw [hsm] at k
   simp only [qax,if_false] at k
   have hlt:=zn4 hsm
   have hln:=(qac.mp e).1
   have f1:=zaL (show (done++[x]).length+1<=1000 by simp;omega)
   have eb:=zhK i.next
   rw [Bool.not_false,qa4 rfl]
   have ih':=fun (h'':Hh) (q0: ∀ j,j<h.length->j≠c->h''[j]? = h[j]?) (q1:h.length<=h''.length) (q:h''[c]? = some (.lst ((done++[x]++[nxt x]).map zaV)))=>ih (x:=nxt x) (done:=done++[x]) (h:=h'') (P:=P) N i.next (by omega) (by omega) (by simp;omega) q fun y2 h' w1 w2 w3=>k y2 h' (fun j jl jc=>by rw [w1 j (by omega) jc,q0 j jl jc]) (by omega) (by rw [w3,List.append_assoc,List.cons_append,List.nil_append,List.cons_append])
   generalize zeC zaZ za8 N=rest at ih' ⊢
   simp only [za8]
   generalize zaV (nxt (nxt x))=d2 at eb ih' ⊢
   rw [List.map_append (l₁:=done++[x])] at ih'
   simp only [qaM,List.map_nil] at ih'
   generalize zaV (nxt x)=d1 at eb ih' ⊢
   ac_nf0
   simp only [zbk,zck,zbr,zbe,zaY,pure_bind,bind_assoc,zas,zbd e,zam]
   ac_nf0
   try simp only [zbd e,zas,zam,zdW,pure_bind,zck,zbr]
   try simp only [qav,List.length_singleton,qaE,qaJ] at f1
   try simp only [qaH,qav,List.length_singleton,qaE,qaJ]
   rw [f1]
   ac_nf0
   refine eb.wp fun h2 g2=> ?_
   obtain ⟨t,rfl⟩:=g2
   ac_nf0
   refine ih' _ (fun j jl jc=> ?_) (by rw [qav,qaI];omega) ?_
   ·rw [qad (by rw [qaI];exact jl),qao (Ne.symm jc)]
   ·rw [qad (by rw [qaI];exact hln),qai hln]
    try rfl
noncomputable def x0 (m:Int) (os:List (List Int×Int)):Sy:=⟨m,os,cI (List.range m.toNat),cI (List.range os.length)⟩
theorem zq8 {n:Nat}:(cI (List.range n)).Nodup:=(zdz n).imp fun h=>by omega
theorem zpc {m:Int} {os:List (List Int×Int)} (s:Stk m os) (hf:Ful m os):In (x0 m os) where
 s:=s
 f:=hf
 tl:=by show (cI _).length=_;rw [zgu,List.length_range];rfl
 nl:=by show (cI _).length=_;rw [zgu,List.length_range];rfl
 td:=zq8
 nd:=zq8
noncomputable def stays (m:Int) (os:List (List Int×Int)):List Sy:=zf5 25 (x0 m os)++[zdm 25 (x0 m os)]
theorem zmK (s:Stk m os) (hf:Ful m os):Ev (F_33 [zaK m os]) (.lst ((stays m os).map zaV)):=by
 have i:=zpc s hf
 have m0:=s.m0
 have m1:=s.m1
 have ol:=s.len
 have eb:=zhK i
 have r1:=zdL (j:=m) (by omega) (by omega)
 have r2:=zdL (j:=(os.length:Int)) (by omega) (by omega)
 rw [qaB] at r2
 have hsz:siz (x0 m os)<=25:=by
  show m.toNat+os.length<=25
  omega
 have hst:zaV (x0 m os)= .tup [zaK m os,tI (cI (List.range m.toNat)),tI (cI (List.range os.length))]:=rfl
 refine .of_wp fun h=> ?_
 rw [d_33]
 simp only [G_33]
 unfold cI at hst
 simp only [tI] at r1 r2 hst
 ac_nf0
 rw [zoA]
 ac_nf0
 rw [r1]
 ac_nf0
 rw [zhf]
 ac_nf0
 rw [r2]
 ac_nf0
 rw [<- hst]
 have e1:(h++[C.lst [zaV (x0 m os)]])[h.length]? = some (.lst [zaV (x0 m os)]):=by simp
 have ea:atI [zaV (x0 m os)] (-1)=some (zaV (x0 m os)):=rfl
 simp only [znE,bind_assoc,zas,zbd e1,ea,zir,zam]
 refine eb.wp fun h1 g1=> ?_
 obtain ⟨t,rfl⟩:=g1
 ac_nf0
 refine zsq ?_
 refine zkc (c:=h.length) (done:=[]) 25 1000 i hsz (by decide) (by decide) (by simp) fun y2 h2 q0 q1 q2=> ?_
 ac_nf0
 rw [List.nil_append] at q2
 have hln:h.length<h2.length:=(qac.mp q2).1
 refine zi4 q2 ?_
 ac_nf0
 have g:Gro h (h2.set h.length .dead):=Kp.gro ⟨by rw [qaI];omega,fun j hj=>by
   rw [qao (by omega),q0 j (by simp;omega) (by omega),qad hj]⟩
 first | exact ⟨rfl,g⟩ | exact ⟨g,rfl⟩ | exact g
theorem zhG (s:Stk m os) (hf:Ful m os):Ev (F_24 [zaK m os]) (zaV (zdm 25 (x0 m os))):=by
 have ea:atI ((stays m os).map zaV) (-1)=some (zaV (zdm 25 (x0 m os))):=by
  unfold stays
  rw [List.map_append]
  exact zgQ
 refine .of_wp fun h=> ?_
 rw [d_24]
 simp only [G_24]
 ac_nf0
 refine (zmK s hf).wp fun h1 g1=> ?_
 ac_nf0
 rw [ea]
 ac_nf0
 first | exact ⟨trivial,g1⟩ | exact ⟨rfl,g1⟩ | exact ⟨g1,rfl⟩ | exact g1
noncomputable def zr3 (x:Sy):D:= .tup [tI (zgL x.ns (nxt x).ns),tI (zgL x.ts (nxt x).ts)]
noncomputable def ztH (m:Int) (os:List (List Int×Int)):List D:=(zf5 25 (x0 m os)).map zr3
theorem zjv {S:Nat->Nat->Bool} {n:Nat}:(zbY S n).length<=n:=by
 have:=List.length_filter_le (fun one=> !(zcp S n one).isEmpty) (List.range n)
 rw [List.length_range] at this
 exact this
theorem zjY {S:Nat->Nat->Bool} {n:Nat}:(cI (zbY S n)).isEmpty=((kept S n).length==n):=by
 have key:zbY S n=[]↔(kept S n).length=n:=by
  constructor
  ·intro h
   have e:kept S n=List.range n:=List.filter_eq_self.mpr fun j hj=>by
    cases hr:(zcp S n j).isEmpty with
    | true=>rfl
    | false=>
     have:j∈zbY S n:=List.mem_filter.mpr ⟨hj,by rw [hr];rfl⟩
     rw [h] at this
     cases this
   rw [e,List.length_range]
  ·intro h
   have e:kept S n=List.range n:=zdH (by rw [List.length_range];exact h)
   refine List.filter_eq_nil_iff.mpr fun j hj=> ?_
   rw [<- e] at hj
   rw [(List.mem_filter.mp hj).2]
   decide
 unfold cI
 rw [List.isEmpty_map,Bool.eq_iff_iff,List.isEmpty_iff,beq_iff_eq]
 exact key
theorem zly {S:Nat->Nat->Bool} {n:Nat}:zbY S n=(List.range n).filter fun j=> !(kept S n).any (· == j):=by
 unfold zbY
 refine List.filter_congr fun j hj=> ?_
 congr 1
 rw [Bool.eq_iff_iff,zgy]
 unfold kept
 rw [List.mem_filter]
 exact ⟨fun z=>⟨hj,z⟩,fun z=>z.2⟩
theorem zl3 {fi:FA} {src:List (Option Nat)} {sd:Sd} {te:FE} {S:Nat->Nat->Bool} {n:Nat} (he:te=zaf 0) (hn:n<=500) (hi:fi sd=pure (zid S n)) (eb:zaq src sd=[none,none]):
  zao fi (zbO 2 (zau (zaw 0) (zau (zaw 1) zbP))) (fun _=>pure true) te src sd=pure (.lst ((cI (zbY S n)).map D.int)):=by
 have gl:=zjv (S:=S) (n:=n)
 rw [zcw,show (zbY S n).map (fun (j:Nat)=>D.int (j:Int))=(zbY S n).filterMap fun (j:Nat)=>some (.int (j:Int)) by simp]
 refine zax (g':=zjU S n) (by rw [hi,zli]) (by omega) fun j _=> ?_
 rw [eb,he]
 simp only [za2,zjU]
 ac_nf0
theorem zhP {fi:FA} {src:List (Option Nat)} {sd:Sd} {te:FE} {S:Nat->Nat->Bool} {n:Nat} (he:te=zaf 0) (hn:n<=500) (hi:Ev (fi sd) (zid S n)) (eb:zaq src sd=[none,none]):
  Ev (zao fi (zbO 2 (zau (zaw 0) (zau (zaw 1) zbP))) (fun _=>pure true) te src sd) (.lst ((cI (zbY S n)).map D.int)):=by
 have e1:=zl3 (fi:=fun _=>pure (zid S n)) (src:=src) (sd:=sd) he hn rfl eb
 unfold zao at e1 ⊢
 rw [pure_bind] at e1
 exact Ev.bind hi (.of e1)
theorem zpt {T:List Nat} {xs:List Int}:(xs.filter fun t=>(cI T).any (· == t)).isEmpty=(nar T xs).isEmpty:=by
 rw [Bool.eq_iff_iff,List.isEmpty_iff,List.isEmpty_iff,List.filter_eq_nil_iff]
 constructor
 ·intro h
  refine List.eq_nil_iff_forall_not_mem.mpr fun p hp=> ?_
  obtain ⟨k,rfl,h1,h2⟩:=zfL.mp hp
  refine h _ h2 ?_
  rw [List.any_eq_true]
  refine ⟨(T.getD k 0:Int),qaU.mpr ⟨T.getD k 0,?_,rfl⟩,by simp⟩
  simp [List.getD,h1]
 ·intro h t ht hb
  obtain ⟨z,hz,e⟩:=List.any_eq_true.mp hb
  rw [beq_iff_eq] at e
  subst e
  obtain ⟨j,hj,rfl⟩:=qaU.mp hz
  obtain ⟨k,hk,rfl⟩:=List.mem_iff_getElem.mp hj
  have:(k:Int)∈nar T xs:=zfL.mpr ⟨k,rfl,hk,by simpa [List.getD,hk] using ht⟩
  rw [h] at this
  cases this
theorem zfa {fi:FA} {src:List (Option Nat)} {sd:Sd} {te:FE} {J:List Nat} {xs:List Int} {d:D} (hJ: ∀ j∈J,j<xs.length) (hl:J.length<=1000) (hi:fi sd=pure ((cI J).map D.int)) (eb:zaq src sd=[none,some d]) (he: ∀ j:Int,te [some (.int j),some d]=ofO (atI (xs.map D.int) j)):
  zao fi (zaw 0) (fun _=>pure true) te src sd=pure (.lst ((J.map fun j=>xs.getD j 0).map D.int)):=by
 rw [qaT,show J.map (D.int∘fun j=>xs.getD j 0)=J.filterMap fun j=>some (.int (xs.getD j 0)) by simp [Function.comp_def]]
 refine zax (g':=fun (j:Nat)=> .int (j:Int)) (by rw [hi,zcw]) hl fun j hj=> ?_
 rw [eb]
 simp only [za2]
 ac_nf0
 rw [he,zfd (hJ j hj)]
 ac_nf0
noncomputable def zfc (x:Sy):D:= .tup [.lst (x.ts.map D.int),.lst (x.ns.map D.int)]
theorem zoZ {x:Sy} (i:In x) {c:Nat} {rs:List D} {x3 x4 x5 x6 x7:Option D} {h:Hh} {P:Out->Hh->Prop} (hc:h[c]? = some (.lst rs)) (hrl:rs.length<=500)
  (k0:zf6 x=true-> ∀ h',Gro h h'->P (.rt (.tup [zaV x,.lst rs])) (h'.set c .dead))
  (k1:zf6 x=false-> ∀ y3 y4 y5 y6 y7 h',(∀ j,j<h.length->j≠c->h'[j]? = h[j]?)->h.length<=h'.length->h'[c]? = some (.lst (rs++[zr3 x]))->P (.nx [some (zaK (nxt x).m (nxt x).os),some (zfc (nxt x)),some (.cel c),y3,y4,y5,y6,y7]) h'):
  wp (zbE [some (zaK x.m x.os),some (zfc x),some (.cel c),x3,x4,x5,x6,x7]) h P:=by
 obtain ⟨m,os,ts,ns⟩:=x
 have s:=i.s
 have tl:=i.tl
 have nl:=i.nl
 have td:=i.td
 have nd:=i.nd
 simp only at s tl nl td nd
 have m0:=s.m0
 have m1:=s.m1
 have ol:=s.len
 have o1l:=znD (os:=os)
 have t1l:=zmJ (m:=m) (os:=os)
 have n1l:=zk2 (m:=m) (os:=os)
 have em:((m.toNat:Nat):Int)=m:=by omega
 have e5:=zeq (n:=m.toNat) (by omega)
 rw [em] at e5
 have e3:=zlw s (T:=List.range m.toNat) (N:=O1 os) (by simp;omega) (fun j hj=>zde hj) (by omega)
 rw [zmm s,List.length_range,em] at e3
 have e4:=zlw s (T:=T1 m os) (N:=N1 m os) (by omega) (fun j hj=>ziH hj) (by omega)
 have n0: ∀ x:Sy,dIx (zfc x) (.int 0)=pure (.lst (x.ts.map D.int)):=fun _=>rfl
 have n1: ∀ x:Sy,dIx (zfc x) (.int 1)=pure (.lst (x.ns.map D.int)):=fun _=>rfl
 have f1:=zaL (show rs.length+1<=1000 by omega)
 simp only [zbE]
 have c1:Ev (zao (iSq (zaz (zap 2 F_47) (zac (zaf 0) (zac (cK (.bl false)) zak)))) (zbO 2 (zau (zaw 0) (zau (zaw 1) zbP))) (fun _=>pure true) zdZ [none,none] [some (zaK m os),some (zfc ⟨m,os,ts,ns⟩),some (.cel c),x3,x4,x5,x6,x7]) (.lst ((cI (zbY (So os) os.length)).map D.int)):=by
  refine zhP rfl (by omega) ?_ rfl
  ac_nf0
  exact Ev.bind (lrO s) (.of rfl)
 have c2: ∀ {y3:Option D},y3=some (.lst ((cI (zbY (So os) os.length)).map D.int))->zao (zfh (zac (zaz zdn (zac (cOp dIx (zaf 0) (cK (.int 1))) zak)) zak)) (zaw 0) zdU zdX [none,some 3] [some (zaK m os),some (zfc ⟨m,os,ts,ns⟩),some (.cel c),y3,x4,x5,x6,x7]=pure (.lst ((cI (O1 os)).map D.int)):=fun {y3} hy=>by
  subst hy
  refine zfQ rfl rfl (by omega) ?_ rfl
  ac_nf0
  rw [zhf]
  ac_nf0
  rw [zbQ (by omega) (by omega),qaB,zbp,qaT]
  rfl
 have c3: ∀ {y3 y4 y5:Option D},y4=some (.lst ((cI (O1 os)).map D.int))->y5=some (.lst ((cI (List.range m.toNat)).map D.int))->Ev (zao (iSq (zaz (zap 2 F_47) (zac (zaz (zap 3 F_48) (zac (zaf 0) (zac (zaf 5) (zac (zaf 4) zak)))) (zac (cK (.bl true)) zak)))) (zbO 2 (zau (zaw 0) (zau (zaw 1) zbP))) (fun _=>pure true) zdY [none,none] [some (zaK m os),some (zfc ⟨m,os,ts,ns⟩),some (.cel c),y3,y4,y5,x6,x7]) (.lst ((cI (zbY (Sth (R1 os)) m.toNat)).map D.int)):=fun {y3 y4 y5} h4 h5=>by
  subst h4 h5
  refine zhP rfl (by omega) ?_ rfl
  ac_nf0
  exact Ev.bind e3 (Ev.bind (lrT (zoy s)) (.of rfl))
 have c4: ∀ {y3 y4 y5 y6:Option D},y5=some (.lst ((cI (List.range m.toNat)).map D.int))->y6=some (.lst ((cI (zbY (Sth (R1 os)) m.toNat)).map D.int))->zao (iSq (zaf 5)) (zaw 0) zdT zdS [none,some 6] [some (zaK m os),some (zfc ⟨m,os,ts,ns⟩),some (.cel c),y3,y4,y5,y6,x7]=pure (.lst ((cI (T1 m os)).map D.int)):=fun {y3 y4 y5 y6} h5 h6=>by
  subst h5 h6
  refine zfQ rfl rfl (by omega) ?_ rfl
  ac_nf0
  rw [zcw]
 have c5: ∀ {y3 y4 y5 y6 y7:Option D},y4=some (.lst ((cI (O1 os)).map D.int))->y7=some (.lst ((cI (T1 m os)).map D.int))->zao (iSq (zaf 4)) (zaw 0) zcH zcJ [none,some 0,some 7] [some (zaK m os),some (zfc ⟨m,os,ts,ns⟩),some (.cel c),y3,y4,y5,y6,y7]=pure (.lst ((cI (N1 m os)).map D.int)):=fun {y3 y4 y5 y6 y7} h4 h7=>by
  subst h4 h7
  rw [zcw (N1 m os)]
  unfold N1
  rw [<- zaE]
  refine zax (g':=fun (j:Nat)=> .int (j:Int)) (by ac_nf0;rw [zcw]) (by omega) fun j hj=> ?_
  have hjl:=zde hj
  have eo:=zda (os:=os) (i:=(j:Int)) (by omega) (by omega)
  rw [qaB] at eo
  have mo:=s.olen _ (zeh (os:=os) hjl)
  rw [show zaq [none,some 0,some 7] [some (zaK m os),some (zfc ⟨m,os,ts,ns⟩),some (.cel c),y3,some (.lst ((cI (O1 os)).map D.int)),y5,y6,some (.lst ((cI (T1 m os)).map D.int))]=[none,some (zaK m os),some (.lst ((cI (T1 m os)).map D.int))] from rfl]
  generalize os.getD j ([],0)=o at eo mo ⊢
  have ei:zao (iSq (cOp dIx (cOp dIx (cOp dIx (zaf 1) (cK (.int 1))) (zaf 0)) (cK (.int 0)))) (zaw 0) zcP zcV [none,some 2] [some (.int (j:Int)),some (zaK m os),some (.lst ((cI (T1 m os)).map D.int))]=pure (.lst ((o.1.filter fun t=>(cI (T1 m os)).any (· == t)).map D.int)):=by
   rw [<- zaE]
   refine zax (g':=D.int) (xs:=o.1) ?_ (by omega) fun t _=> ?_
   ·ac_nf0
    rw [zhf]
    ac_nf0
    rw [eo]
    ac_nf0
   ·rw [show zaq [none,some 2] [some (.int (j:Int)),some (zaK m os),some (.lst ((cI (T1 m os)).map D.int))]=[none,some (.lst ((cI (T1 m os)).map D.int))] from rfl]
    simp only [za2,zcP,zcV]
    ac_nf0
    rw [zkk]
    ac_nf0
    split<;>rfl
  simp only [za2,zcH,zcJ]
  ac_nf0
  rw [ei]
  ac_nf0
  rw [zdJ,zpt]
  ac_nf0
  split<;>rfl
 ac_nf0
 refine c1.wp fun h1 g1=> ?_
 ac_nf0
 rw [c2 rfl]
 ac_nf0
 rw [zoA]
 ac_nf0
 rw [e5]
 ac_nf0
 refine (c3 rfl rfl).wp fun h2 g2=> ?_
 ac_nf0
 rw [c4 rfl rfl]
 ac_nf0
 rw [c5 rfl rfl]
 ac_nf0
 rw [zhf]
 ac_nf0
 rw [zn6]
 ac_nf0
 have g:=g1.trans g2
 have hln:=(qac.mp hc).1
 have hc2:=g.get hc
 have sm:zf6 ⟨m,os,ts,ns⟩=((T1 m os).length==m.toNat && (N1 m os).length==os.length):=rfl
 have ge:=zjY (S:=Sth (R1 os)) (n:=m.toNat)
 have ge:(cI (zbY (Sth (R1 os)) m.toNat)).isEmpty=((T1 m os).length==m.toNat):=ge
 rw [zgu]
 rw [show (((N1 m os).length:Int)==(os.length:Int))=((N1 m os).length==os.length) by rw [Bool.eq_iff_iff,beq_iff_eq,beq_iff_eq];omega]
 have hl2:h.length<=h2.length:=by
  obtain ⟨t,rfl⟩:=g
  simp
 have c6: ∀ {y3 y4 y5 y6 y7:Option D},y4=some (.lst ((cI (N1 m os)).map D.int))->zao (zfh (zac (zaz zdn (zac (cOp dIx (zaf 0) (cK (.int 1))) zak)) zak)) (zaw 0) zcU zcL [none,some 4] [some (zaK m os),some (zfc ⟨m,os,ts,ns⟩),some (.cel c),y3,y4,y5,y6,y7]=pure (.lst ((cI ((List.range os.length).filter fun j=> !(N1 m os).any (· == j))).map D.int)):=fun {y3 y4 y5 y6 y7} h4=>by
  subst h4
  rw [zcw ((List.range os.length).filter fun j=> !(N1 m os).any (· == j)), <-zaE]
  refine zax (g':=fun (j:Nat)=> .int (j:Int)) ?_ (by simp;omega) fun j hj=> ?_
  ·ac_nf0
   rw [zhf]
   ac_nf0
   rw [zbQ (by omega) (by omega),qaB,zbp,qaT]
   rfl
  ·rw [show zaq [none,some 4] [some (zaK m os),some (zfc ⟨m,os,ts,ns⟩),some (.cel c),y3,some (.lst ((cI (N1 m os)).map D.int)),y5,y6,y7]=[none,some (.lst ((cI (N1 m os)).map D.int))] from rfl]
   simp only [za2,zcU,zcL]
   ac_nf0
   rw [zec,znT]
   ac_nf0
   split<;>rfl
 have q1: ∀ j:Int,zb3 [some (.int j),some (zfc ⟨m,os,ts,ns⟩)]=ofO (atI (ns.map D.int) j):=fun j=>by
  simp only [zb3]
  ac_nf0
  rw [n1]
  ac_nf0
 have q2: ∀ j:Int,zb0 [some (.int j),some (zfc ⟨m,os,ts,ns⟩)]=ofO (atI (ts.map D.int) j):=fun j=>by
  simp only [zb0]
  ac_nf0
  rw [n0]
  ac_nf0
 have c7: ∀ {y3 y4 y5 y6 y7:Option D},y3=some (.lst ((cI ((List.range os.length).filter fun j=> !(N1 m os).any (· == j))).map D.int))->zao (iSq (zaf 3)) (zaw 0) (fun _=>pure true) zb3 [none,some 1] [some (zaK m os),some (zfc ⟨m,os,ts,ns⟩),some (.cel c),y3,y4,y5,y6,y7]=pure (.lst ((zgL ns ((N1 m os).map fun j=>ns.getD j 0)).map D.int)):=fun {y3 y4 y5 y6 y7} h3=>by
  subst h3
  have pm:=zhV (J:=N1 m os) nd fun j hj=>by rw [nl];exact ziH hj
  rw [nl] at pm
  rw [<- pm]
  have fl:=List.length_filter_le (fun j=> !(N1 m os).any (· == j)) (List.range os.length)
  rw [List.length_range] at fl
  exact zfa (d:=zfc ⟨m,os,ts,ns⟩) (fun j hj=>by have:=List.mem_range.mp (List.mem_filter.mp hj).1;omega) (by omega) (by ac_nf0) rfl q1
 have c8: ∀ {y3 y4 y5 y6 y7:Option D},y6=some (.lst ((cI (zbY (Sth (R1 os)) m.toNat)).map D.int))->zao (iSq (zaf 6)) (zaw 0) (fun _=>pure true) zb0 [none,some 1] [some (zaK m os),some (zfc ⟨m,os,ts,ns⟩),some (.cel c),y3,y4,y5,y6,y7]=pure (.lst ((zgL ts ((T1 m os).map fun j=>ts.getD j 0)).map D.int)):=fun {y3 y4 y5 y6 y7} h6=>by
  subst h6
  have pm:=zhV (J:=T1 m os) td fun j hj=>by rw [tl];exact znx hj
  rw [tl] at pm
  rw [<- pm]
  have gk:=zly (S:=Sth (R1 os)) (n:=m.toNat)
  have gl:=zjv (S:=Sth (R1 os)) (n:=m.toNat)
  rw [show (List.range m.toNat).filter (fun j=> !(T1 m os).any (· == j))=zbY (Sth (R1 os)) m.toNat from gk.symm]
  exact zfa (d:=zfc ⟨m,os,ts,ns⟩) (fun j hj=>by have:=List.mem_range.mp (List.mem_filter.mp hj).1;omega) (by omega) (by ac_nf0) rfl q2
 have c9: ∀ {s0 y3 y4 y5 y6 y7:Option D},y7=some (.lst ((cI (T1 m os)).map D.int))->zao (iSq (zaf 7)) (zaw 0) (fun _=>pure true) zdA [none,some 1] [s0,some (zfc ⟨m,os,ts,ns⟩),some (.cel c),y3,y4,y5,y6,y7]=pure (.lst (((T1 m os).map fun j=>ts.getD j 0).map D.int)):=fun {s0 y3 y4 y5 y6 y7} h7=>by
  subst h7
  exact zfa (d:=zfc ⟨m,os,ts,ns⟩) (fun j hj=>by rw [tl];exact znx hj) (by omega) (by ac_nf0) rfl q2
 have c10: ∀ {s0 y3 y4 y5 y6 y7:Option D},y4=some (.lst ((cI (N1 m os)).map D.int))->zao (iSq (zaf 4)) (zaw 0) (fun _=>pure true) zdq [none,some 1] [s0,some (zfc ⟨m,os,ts,ns⟩),some (.cel c),y3,y4,y5,y6,y7]=pure (.lst (((N1 m os).map fun j=>ns.getD j 0).map D.int)):=fun {s0 y3 y4 y5 y6 y7} h4=>by
  subst h4
  exact zfa (d:=zfc ⟨m,os,ts,ns⟩) (fun j hj=>by rw [nl];exact ziH hj) (by omega) (by ac_nf0) rfl q1
 have er:zr3 ⟨m,os,ts,ns⟩= .tup [.tup ((zgL ns ((N1 m os).map fun j=>ns.getD j 0)).map D.int),.tup ((zgL ts ((T1 m os).map fun j=>ts.getD j 0)).map D.int)]:=rfl
 cases hs:zf6 ⟨m,os,ts,ns⟩ with
 | true=>
  rw [hs,eq_comm,qaG] at sm
  rw [sm.2]
  ac_nf0
  rw [zd8,ge,sm.1]
  ac_nf0
  rw [n0]
  ac_nf0
  rw [n1]
  ac_nf0
  refine zi4 hc2 ?_
  ac_nf0
  exact k0 hs h2 g
 | false=>
  have hsp:((N1 m os).length==os.length)=false\/((N1 m os).length==os.length)=true/\((T1 m os).length==m.toNat)=false:=by
   rw [hs] at sm
   cases h1:((N1 m os).length==os.length) with
   | false=>exact .inl rfl
   | true=>
    rw [h1,Bool.and_true] at sm
    exact .inr ⟨rfl,sm.symm⟩
  rcases hsp with hN | ⟨hN,hT⟩
  ·rw [hN]
   ac_nf0
   rw [c6 rfl]
   ac_nf0
   simp only [zbk,zck,zbr,zbe,zaY,pure_bind,bind_assoc,zas,zbd hc2,zam]
   ac_nf0
   rw [c7 rfl]
   ac_nf0
   rw [c8 rfl]
   ac_nf0
   simp only [zbd hc2,zas,zam,qaH,f1,zdW,pure_bind,zck,zbr]
   ac_nf0
   refine e4.wp fun h3 g3=> ?_
   obtain ⟨t3,rfl⟩:=g3
   ac_nf0
   rw [c9 rfl]
   ac_nf0
   rw [c10 rfl]
   ac_nf0
   refine k1 hs _ _ _ _ _ _ (fun j jl jc=> ?_) (by rw [qav,qaI];omega) ?_
   ·rw [qad (by rw [qaI];omega),qao (Ne.symm jc)]
    obtain ⟨t,rfl⟩:=g
    exact qad jl
   ·rw [qad (by rw [qaI];omega),qai (by omega)]
    rw [er]
  ·rw [hN]
   ac_nf0
   rw [zd8,ge,hT]
   ac_nf0
   rw [c6 rfl]
   ac_nf0
   simp only [zbk,zck,zbr,zbe,zaY,pure_bind,bind_assoc,zas,zbd hc2,zam]
   ac_nf0
   rw [c7 rfl]
   ac_nf0
   rw [c8 rfl]
   ac_nf0
   simp only [zbd hc2,zas,zam,qaH,f1,zdW,pure_bind,zck,zbr]
   ac_nf0
   refine e4.wp fun h3 g3=> ?_
   obtain ⟨t3,rfl⟩:=g3
   ac_nf0
   rw [c9 rfl]
   ac_nf0
   rw [c10 rfl]
   ac_nf0
   refine k1 hs _ _ _ _ _ _ (fun j jl jc=> ?_) (by rw [qav,qaI];omega) ?_
   ·rw [qad (by rw [qaI];omega),qao (Ne.symm jc)]
    obtain ⟨t,rfl⟩:=g
    exact qad jl
   ·rw [qad (by rw [qaI];omega),qai (by omega)]
    rw [er]
theorem zjS {c:Nat} (f:Nat): ∀ {x:Sy} {rs:List D} {h:Hh} {x3 x4 x5 x6 x7:Option D} {P:Out->Hh->Prop} (N:Nat),In x->siz x<=f->f<N->rs.length+f<=400->h[c]? = some (.lst rs)->
  (∀ h',(∀ j,j<h.length->j≠c->h'[j]? = h[j]?)->h.length<=h'.length->P (.rt (.tup [zaV (zdm f x),.lst (rs++(zf5 f x).map zr3)])) h')->
  wp (zeC zb1 zbE N [some (zaK x.m x.os),some (zfc x),some (.cel c),x3,x4,x5,x6,x7]) h P:=by
 induction f with
 | zero=>
  intro x rs h x3 x4 x5 x6 x7 P N i hs
  have:=zlR i
  omega
 | succ f ih=>
  intro x rs h x3 x4 x5 x6 x7 P N i hs hN hr e k
  obtain ⟨N,rfl⟩: ∃ N',N=N'+1:=⟨N - 1,by omega⟩
  have hln:=(qac.mp e).1
  rw [zf5,zdm] at k
  rw [zix,zas]
  have ew: ∀ sd:Sd,zb1 sd=pure true:=fun _=>rfl
  rw [ew,zam,qa4 rfl,zas]
  refine zoZ i e (by omega) (fun hsm h' g=> ?_) fun hsm y3 y4 y5 y6 y7 h' q0 q1 q2=> ?_
  ·rw [hsm] at k
   simp only [if_true,List.map_nil,List.append_nil] at k
   show wp (pure _) _ _
   rw [zam]
   refine k _ (fun j jl jc=> ?_) (by obtain ⟨t,rfl⟩:=g;rw [qaI,qav];omega)
   rw [qao (Ne.symm jc)]
   obtain ⟨t,rfl⟩:=g
   exact qad jl
  ·rw [hsm] at k
   simp only [qax,if_false] at k
   have hlt:=zn4 hsm
   show wp (zeC zb1 zbE N _) _ _
   refine ih (x:=nxt x) (rs:=rs++[zr3 x]) N i.next (by omega) (by omega) (by simp;omega) q2 fun h'' w1 w2=> ?_
   have:=k h'' (fun j jl jc=>by rw [w1 j (by omega) jc,q0 j jl jc]) (by omega)
   rw [List.append_assoc]
   exact this
theorem zms (s:Stk m os) (hf:Ful m os):Ev (F_49 [zaK m os]) (.tup [zaV (zdm 25 (x0 m os)),.lst (ztH m os)]):=by
 have i:=zpc s hf
 have m0:=s.m0
 have m1:=s.m1
 have ol:=s.len
 have r1:=zeq (n:=m.toNat) (by omega)
 have r2:=zeq (n:=os.length) (by omega)
 rw [show ((m.toNat:Nat):Int)=m by omega] at r1
 have hsz:siz (x0 m os)<=25:=by
  show m.toNat+os.length<=25
  omega
 have hn:D.tup [.lst ((cI (List.range m.toNat)).map D.int),.lst ((cI (List.range os.length)).map D.int)]=zfc (x0 m os):=rfl
 refine .of_wp fun h=> ?_
 rw [d_49]
 simp only [G_49]
 ac_nf0
 rw [zoA]
 ac_nf0
 rw [r1]
 ac_nf0
 rw [zhf]
 ac_nf0
 rw [r2]
 ac_nf0
 rw [hn]
 refine zjS (c:=h.length) (x:=x0 m os) (rs:=[]) 25 1000 i hsz (by decide) (by decide) (by simp) fun h' q0 q1=> ?_
 ac_nf0
 have g:Gro h h':=Kp.gro ⟨by simp at q1;omega,fun j hj=>by
   rw [q0 j (by simp;omega) (by omega),qad hj]⟩
 first | exact ⟨rfl,g⟩ | exact ⟨g,rfl⟩ | exact g
theorem zma {os':List (List Int×Int)} (h: ∀ o∈os,o∈os') (hf:(zbD m os).isEmpty=true):(zbD m os').isEmpty=true:=by
 rw [List.isEmpty_iff] at hf ⊢
 unfold zbD at hf ⊢
 rw [List.filter_eq_nil_iff] at hf ⊢
 intro t ht z
 refine hf t ht ?_
 rw [List.isEmpty_iff] at z ⊢
 rw [List.filter_eq_nil_iff] at z ⊢
 exact fun o ho=>z o (h o ho)
theorem zpV (m0:1<=m) (hf:(zbD m os).isEmpty=true):os≠[]:=fun z=>by
 subst z
 rw [List.isEmpty_iff] at hf
 unfold zbD at hf
 rw [List.filter_eq_nil_iff] at hf
 exact hf 0 (qaU.mpr ⟨0,List.mem_range.mpr (by omega),rfl⟩) rfl
theorem zqo {o:List Int×Int} {a:Int} {p:Int} {xs:List Int} (g:Go m o) (hx:xs=o.1\/(xs=o.1.take a.toNat++o.1.drop (a+1).toNat/\0<=a/\xs≠[])) (hp:0<p):Go m (xs,p):=by
 obtain ⟨g1,g2,g3,g4⟩:=g
 rcases hx with rfl | ⟨rfl,a0,hn⟩
 ·exact ⟨g1,g2,g3,hp⟩
 ·have e:(a+1).toNat=a.toNat+1:=by omega
  rw [e, <-List.eraseIdx_eq_take_drop_succ] at hn ⊢
  exact ⟨g1.sublist (List.eraseIdx_sublist _ _),fun x hx=>g2 x ((List.eraseIdx_sublist _ _).subset hx),hn,hp⟩
theorem zgv {b c:Nat} (hbc:c≠b) {s1 s2:Option D} (m0:1<=m) (m1:m<=10): ∀ (n:Nat) (os:List (List Int×Int)) {h:Hh} {x4 x5 x6 x7:Option D} {P:Out->Hh->Prop},Bx b h->h[c]? = some (.lst (os.map zbt))->os≠[]->os.length<=10->(∀ o∈os,Go m o)->10 - os.length<n->
  (∀ (os':List (List Int×Int)) y4 y5 y6 y7 h',Bx b h'->h'[c]? = some (.lst (os'.map zbt))->os'.length<=10->(∀ o∈os',Go m o)->(∀ o∈os,o∈os')->P (.nx [some (.cel b),s1,s2,some (.cel c),y4,y5,y6,y7]) h')->
  wp (zeC za3 za4 n [some (.cel b),s1,s2,some (.cel c),x4,x5,x6,x7]) h P
 | 0,os,h,x4,x5,x6,x7,P,q,e,hne,hl,hg,hn,k=>by omega
 | n+1,os,h,x4,x5,x6,x7,P,q,e,hne,hl,hg,hn,k=>by
  have hpos:=List.length_pos_iff.mpr hne
  have ih:=fun (os':List (List Int×Int)) (h:Hh) (x4 x5 x6 x7:Option D)=>zgv hbc (s1:=s1) (s2:=s2) m0 m1 n os' (h:=h) (x4:=x4) (x5:=x5) (x6:=x6) (x7:=x7) (P:=P)
  rw [zix]
  generalize zeC za3 za4 n=go at ih ⊢
  simp only [za3]
  ac_nf0
  simp only [zoD]
  ac_nf0
  simp only [zbd e,zam,qaH]
  simp only [zpP]
  ac_nf0
  by_cases h1:(os.length:Int)<10
  ·simp only [h1,decide_true]
   ac_nf0
   refine zbh q (by decide) (by decide) fun t h2 t0 t1 x2=> ?_
   rw [zn6]
   ac_nf0
   have e2:=x2.2 c _ hbc e
   cases ht:(t==1)
   ·ac_nf0
    exact k os _ _ _ _ h2 x2.1 e2 hl hg fun o ho=>ho
   ·ac_nf0
    simp only [za4]
    ac_nf0
    simp only [zoD]
    ac_nf0
    simp only [zbd e2,zam,qaH]
    refine zbh x2.1 (by omega) (by omega) fun u h3 u0 u1 x3=> ?_
    have e3:=x3.2 c _ hbc e2
    simp only [znE]
    ac_nf0
    simp only [zbd e3]
    have hm:os.getD u.toNat ([],0)∈os:=by
     have:u.toNat<os.length:=by omega
     simp [List.getD,this]
    rw [zda u0 u1]
    generalize os.getD u.toNat ([],0)=o at hm
    have g:=hg o hm
    have gl:=zgq (by omega) g.1 g.2.1
    have gp:=List.length_pos_iff.mpr g.2.2.1
    ac_nf0
    refine zbh x3.1 (by omega) (by omega) fun a h4 a0 a1 x4'=> ?_
    have e4:=x4'.2 c _ hbc e3
    have f:=zaL (show (List.take a.toNat (o.1.map D.int)).length+(List.drop (a+1).toNat (o.1.map D.int)).length<=1000 by simp;omega)
    ac_nf0
    simp only [zi5 _ a0,zjp _ (show 0<=a+1 by omega),f]
    ac_nf0
    have ed: ∀ xs:List Int,dEq (.tup (xs.map D.int)) (.tup [])=pure (.bl (xs==[])):=fun xs=>zn9 xs []
    have em:List.take a.toNat (o.1.map D.int)++List.drop (a+1).toNat (o.1.map D.int)=(o.1.take a.toNat++o.1.drop (a+1).toNat).map D.int:=by rw [List.map_append,List.map_take,List.map_drop]
    rw [em]
    generalize hxs:o.1.take a.toNat++o.1.drop (a+1).toNat=xs
    rw [ed]
    ac_nf0
    have fin: ∀ (zs:List Int) (h5:Hh) (y6:Option D),(zs=o.1\/(zs=o.1.take a.toNat++o.1.drop (a+1).toNat/\0<=a/\zs≠[]))->Ext b h4 h5->wp ((zbk (zaf 3) (zcT (zac (zaf 7) (zac (zaz zlF (zac (cK (.int 1)) (zac (cOp zdo (cOp zqK (zaf 5) (cK (.int 1))) (zaz (zap 2 F_39) (zac (zaf 0) (zac (cK (.int 3)) zak)))) zak))) zak)))) [some (.cel b),s1,s2,some (.cel c),some (.tup (o.1.map D.int)),some (.int o.2),y6,some (.tup (zs.map D.int))]) h5
      fun _ h6=>wp (go [some (.cel b),s1,s2,some (.cel c),some (.tup (o.1.map D.int)),some (.int o.2),y6,some (.tup (zs.map D.int))]) h6 P:=fun zs h5 y6 hz x5'=>by
     have e5:=x5'.2 c _ hbc e4
     simp only [zbk]
     ac_nf0
     simp only [zbd e5,zam]
     refine zbh x5'.1 (by decide) (by decide) fun v h6 v0 v1 x6'=> ?_
     have e6:=x6'.2 c _ hbc e5
     have hlt:=(qac.mp e6).1
     have f2:=zaL (show os.length+1<=1000 by omega)
     ac_nf0
     simp only [zbr,zas,zbd e6,qaH,f2,zam,zdW]
     generalize hp:(if o.2 - 1+v>1 then o.2 - 1+v else (1:Int))=p
     have p0:0<p:=by
      rw [<- hp]
      split<;>omega
     have:=ih (os++[(zs,p)]) (h6.set c (.lst ((os++[(zs,p)]).map zbt))) (some (.tup (o.1.map D.int))) (some (.int o.2)) y6 (some (.tup (zs.map D.int))) ?_ (qai hlt) (by simp) (by simp;omega) ?_ (by simp;omega) ?_
     ·simp only [List.map_append,qaM,List.map_nil,zbt,tI] at this
      exact this
     ·obtain ⟨y,ey⟩:=x6'.1
      exact ⟨y,by rw [qao hbc];exact ey⟩
     ·intro o' ho'
      rcases qaK.mp ho' with w | w
      ·exact hg o' w
      ·rw [List.mem_singleton] at w
       rw [w]
       exact zqo g hz p0
     ·intro os' y4 y5 y6' y7 h' q' e' l' g' hsub
      exact k os' y4 y5 y6' y7 h' q' e' l' g' fun o' ho'=>hsub o' (List.mem_append_left _ ho')
    cases hx:(xs==[])
    ·ac_nf0
     have hxn:xs≠[]:=by
      intro z
      rw [z] at hx
      cases hx
     refine zbh x4'.1 (by decide) (by decide) fun v h5 v0 v1 x5'=> ?_
     rw [zn6]
     ac_nf0
     cases (v==1)
     ·ac_nf0
      exact zeM (fin xs h5 _ (.inr ⟨hxs.symm,a0,hxn⟩) x5') fun _ _ z=>z
     ·ac_nf0
      exact zeM (fin o.1 h5 _ (.inl rfl) x5') fun _ _ z=>z
    ·ac_nf0
     exact zeM (fin o.1 h4 _ (.inl rfl) (Ext.refl x4'.1)) fun _ _ z=>z
  ·simp only [h1,decide_false]
   ac_nf0
   exact k os _ _ _ _ h q e hl hg fun o ho=>ho
theorem zm5 {h:Hh} {b:Nat} {P:D->Hh->Prop} (q:Bx b h) (k: ∀ (m:Int) (os:List (List Int×Int)) h',Bx b h'->Stk m os->(zbD m os).isEmpty=true->P (zaK m os) h'):wp (F_50 [.cel b]) h P:=by
 rw [d_50]
 simp only [G_50]
 ac_nf0
 refine zpv q (by decide) (by decide) (by decide) (by decide) fun m os h2 q2 s hf hl hm=> ?_
 have en:zk9 [.tup (os.map zbt)]=zd5 (os.map zbt):=rfl
 simp only [zaK]
 ac_nf0
 rw [en]
 ac_nf0
 have x3:=q2.push (c:= .lst (os.map zbt))
 have hbc:h2.length≠b:=fun z=>by
  obtain ⟨y,ey⟩:=q2
  have:=(qac.mp ey).1
  omega
 simp only [zhw]
 refine zgv hbc s.m0 s.m1 1000 os x3.1 (by simp) (zpV s.m0 hf) (by omega) (fun o ho=>⟨s.up o ho,s.bd o ho,s.ne o ho,s.pos o ho⟩) (by omega) fun os' y4 y5 y6 y7 h4 q4 e4 l4 g4 hsub=> ?_
 ac_nf0
 simp only [zlY,bind_assoc,zas,zbd e4,zam]
 ac_nf0
 exact k m os' h4 q4 (zmo s.m0 s.m1 (by omega) g4) (zma hsub hf)
theorem zji {d:D} (k:kn d=true):F_8 [d]=pure (.bl (isI d)):=by
 rw [d_8]
 simp only [G_8,zce,zlu,zm7,zaY,pure_bind,bind_assoc,zme k,zou k,zdB,zlv]
 cases d<;>simp [isI]
theorem zhu {m:Int} {x0:Option D}: ∀ {ds:List D} {l:Int} {x3:Option D},(∀ d∈ds,kn d=true)->
  (zbW m l ds=true-> ∃ sd',zbc (fun x sd=>do let sd1<-zaw 3 x sd;zbu sd1) ds [x0,some (.int m),some (.int l),x3]=pure (.nx sd'))/\
  (zbW m l ds=false->zbc (fun x sd=>do let sd1<-zaw 3 x sd;zbu sd1) ds [x0,some (.int m),some (.int l),x3]=pure (.rt (.bl false)))
 | [],l,x3,_=>⟨fun _=>⟨_,rfl⟩,fun h=>by simp [zbW] at h⟩
 | d::r,l,x3,hk=>by
  have kd:=hk d qau
  have step: ∀ {i:Int},d= .int i->(do let sd1<-zaw 3 d [x0,some (.int m),some (.int l),x3];zbu sd1)=if (decide (l<=i) && decide (i<m))=true then pure (.nx [x0,some (.int m),some (.int (i+1)),some (.int i)]) else pure (.rt (.bl false)):=by
   intro i e
   subst e
   simp only [zbu,zfB,List.set,pure_bind,bind_assoc,zbl,ziC,zqg,zjd,ziW,zcm,zbm,zbM,zbe,zaY,ziM,zji (show kn (.int i)=true from rfl),zdB,isI,zgl,zpP,zuZ,zce,zgU,zfK]
   by_cases h1:l<=i
   ·by_cases h2:i<m
    ·have h1': ¬i<l:=by omega
     have h2': ¬m<=i:=by omega
     simp [h1,h2,h1',h2']
    ·have h1': ¬i<l:=by omega
     have h2':m<=i:=by omega
     simp [h1,h2,h1',h2']
   ·have h1':i<l:=by omega
    simp [h1,h1']
  by_cases hi:isI d=true
  ·obtain ⟨i,e⟩: ∃ i,d= .int i:=by cases d<;>simp [isI] at hi;exact ⟨_,rfl⟩
   have s1:=step e
   subst e
   have ih:=zhu (m:=m) (x0:=x0) (ds:=r) (l:=i+1) (x3:=some (.int i)) fun y hy=>hk y (qan _ hy)
   rw [zcr,s1]
   by_cases c:(decide (l<=i) && decide (i<m))=true
   ·have er:zbW m l (.int i::r)=zbW m (i+1) r:=by rw [zbW,c];simp
    rw [er]
    simp only [c,if_true,pure_bind]
    exact ih
   ·have er:zbW m l (.int i::r)=false:=by rw [zbW,Bool.eq_false_iff.mpr c];simp
    rw [er]
    simp only [Bool.eq_false_iff.mpr c,if_false,pure_bind,qax]
    simp
  ·have hi':isI d=false:=Bool.eq_false_iff.mpr hi
   have er:zbW m l (d::r)=false:=by cases d<;>simp [isI] at hi'<;>rfl
   rw [er,zcr]
   refine ⟨fun h=>(by cases h),fun _=> ?_⟩
   simp only [zbu,zfB,List.set,pure_bind,bind_assoc,zbl,ziC,zqg,zjd,ziW,zcm,zbm,zbM,zbe,zaY,ziM,zji kd,zdB,hi',zce,zgU,zfK]
   simp
theorem zmg {d:D} {m:Int} (k:kn d=true) (hk: ∀ ds,d= .tup ds-> ∀ x∈ds,kn x=true):F_9 [d,.int m]=pure (.bl (match d with | .tup ds=>zbW m 0 ds | _=>false)):=by
 rw [d_9]
 simp only [G_9,zbl,ziC,zjd,ziW,zm7,zaY,pure_bind,bind_assoc,znQ k,zdB]
 cases d with
 | tup ds=>
  simp only [isT,Bool.not_true,qax,if_false,zfK,pure_bind,zhE,zbl,zcF,zgU,List.set,ziV,zsv,zaY,zr8,bind_assoc]
  have:=zhu (m:=m) (x0:=some (.tup ds)) (ds:=ds) (l:=0) (x3:=none) (hk ds rfl)
  cases c:zbW m 0 ds with
  | true=>
   obtain ⟨sd',e⟩:=this.1 c
   rw [e]
   simp
  | false=>
   rw [this.2 c]
   simp
 | _=>simp [isT]
theorem zoB (s:Stk m os) {d:D} (g:gk d):F_10 [zaK m os,d]=pure (.bl (zh8 os.length d)):=by
 rw [d_10]
 simp only [G_10,zaK]
 ac_nf0
 rw [zmg g.1 fun ds e=>(g.2 ds e).2]
 ac_nf0
 cases d<;>rfl
theorem ziy (s:Stk m os) {d:D} (g:gk d):F_13 [zaK m os,d]=if zh8 os.length d=true then pure .non else zgo "NoCover":=by
 rw [d_13]
 simp only [G_13]
 ac_nf0
 rw [zoB s g]
 ac_nf0
 cases zh8 os.length d
 ·simp
 ·simp [zss]
theorem zlk (s:Stk m os) {ls:List Int} (hu:ls.Pairwise (· < ·)) (b: ∀ x∈ls,0<=x/\x<os.length):F_14 [zaK m os,tI ls]=pure (.lst ((zcY os ls).map zbt)):=by
 have hl:=zgq (m:=os.length) (by omega) hu b
 have hls:ls.length<=12:=by have:=s.len;omega
 have hp:zh8 os.length (tI ls)=true:=zb4.mpr ⟨hu,b⟩
 rw [d_14]
 simp only [G_14]
 ac_nf0
 have e:=ziy s (d:=tI ls) (zlX (by omega))
 rw [hp,qa4 rfl] at e
 unfold tI at e
 rw [e]
 ac_nf0
 rw [zfu (ds:=ls.map D.int) (k:=fun d=>match d with | .int i=>zbt (os.getD i.toNat ([],0)) | d=>d) rfl (by rw [qaH];omega) ?_]
 ·ac_nf0
  unfold zcY
  rw [qaT,qaT]
  rfl
 ·intro x hx
  obtain ⟨i,hi,rfl⟩:=qaU.mp hx
  have eb:zaq [none,some 0] [some (zaK m os),some (D.tup (ls.map D.int))]=[none,some (zaK m os)]:=rfl
  rw [eb]
  simp only [za2,zes,zaK]
  ac_nf0
  rw [zda (b i hi).1 (b i hi).2]
  ac_nf0
def Lt (os:List (List Int×Int)) (ls:List Int):Prop:=ls.Pairwise (· < ·)/\ ∀ x∈ls,0<=x/\x<os.length
theorem Lt.sub {ls ks:List Int} (h:Lt os ls) (s:ks.Sublist ls):Lt os ks:=⟨h.1.sublist s,fun x hx=>h.2 x (s.subset hx)⟩
theorem Lt.lot {ls:List Int} (h:Lt os ls):zh8 os.length (tI ls)=true:=zb4.mpr h
theorem Lt.len {ls:List Int} (h:Lt os ls) (s:Stk m os):ls.length<=12:=by
 have:=zgq (m:=os.length) (by omega) h.1 h.2
 have:=s.len
 omega
theorem zld {d:D} (k:kn d=true):F_42 [d]=pure (.bl (isI d)):=by
 rw [d_42]
 simp only [G_42,zce,zlu,zm7,zaY,pure_bind,bind_assoc,zme k,zou k,zdB,zlv]
 cases d<;>simp [isI]
theorem ziQ {sd:Sd} {ds:List D} {fi:FA} {E1:FE} (hE:E1=zaz (zap 1 F_42) (zac (zaf 0) zak)) (hi:fi sd=pure ds) (hl:ds.length<=1000) (hk: ∀ x∈ds,kn x=true):zao fi (zaw 0) (fun _=>pure true) E1 [none] sd=pure (.lst ((ds.map isI).map D.bl)):=by
 rw [zfu (ds:=ds) (k:=fun d=> .bl (isI d)) hi hl ?_]
 ·rw [qaT];rfl
 ·intro x hx
  have eb:zaq [none] sd=[none]:=rfl
  rw [eb,hE]
  simp only [za2]
  ac_nf0
  rw [zld (hk x hx)]
  ac_nf0
theorem zpu (s:Stk m os) {d:D} (g:gk d):F_51 [zaK m os,d]=pure (.bl (zh8 os.length d)):=by
 rw [d_51]
 simp only [G_51]
 ac_nf0
 rw [znQ g.1]
 ac_nf0
 cases d with
 | tup ds=>
  obtain ⟨hl,hk⟩:=g.2 ds rfl
  simp only [isT,Bool.not_true,qax,if_false,ziQ (E1:=zdv) (fi:=iSq (zaf 1)) (sd:=[some (zaK m os),some (D.tup ds)]) (ds:=ds) rfl rfl (by omega) hk,pure_bind,zit,zdB]
  cases ha:(ds.map isI).all id with
  | false=>
   simp
   have:zbW os.length 0 ds=false:=by
    cases hp:zbW os.length 0 ds with
    | false=>rfl
    | true=>
     have:=zgJ hp
     rw [List.all_map] at ha
     rw [show (ds.all (id∘isI))=ds.all isI from rfl,this] at ha
     cases ha
   simp [zh8,this]
  | true=>
   have hi:ds.all isI=true:=by rw [List.all_map] at ha;exact ha
   obtain ⟨xs,rfl⟩:=ziu hi
   rw [qaH] at hl
   simp only [Bool.not_true,qax,if_false,pure_bind,zhE]
   ac_nf0
   first | rw [zob,zfz hl] | rw [zfz hl]
   ac_nf0
   rw [ziK]
   ac_nf0
   have e2:zao (iSq (zaf 1)) (zaw 0) (fun _=>pure true) zco [none,some 0] [some (zaK m os),some (D.tup (xs.map D.int))]=pure (.lst ((xs.map fun (i:Int)=>decide (0<=i) && decide (i<(os.length:Int))).map D.bl)):=by
    rw [zfu (ds:=xs.map D.int) (k:=fun d=>match d with | .int i=> .bl (decide (0<=i) && decide (i<(os.length:Int))) | d=>d) rfl (by rw [qaH];omega) ?_]
    ·rw [qaT,qaT];rfl
    ·intro x hx
     obtain ⟨i,hi,rfl⟩:=qaU.mp hx
     have eb:zaq [none,some 0] [some (zaK m os),some (D.tup (xs.map D.int))]=[none,some (zaK m os)]:=rfl
     rw [eb]
     simp only [za2,zco,zaK]
     ac_nf0
     simp only [zhx]
     ac_nf0
     simp only [ztj,zpP]
     ac_nf0
     by_cases h0:0<=i<;>simp [h0,zhx]
   by_cases hu:xs.Pairwise (· < ·)
   ·rw [zkq hu]
    simp only [beq_self_eq_true,if_true,e2,pure_bind,zit]
    ac_nf0
    have:((xs.map fun (i:Int)=>decide (0<=i) && decide (i<(os.length:Int))).all id)=zbW os.length 0 (xs.map D.int):=by
     rw [Bool.eq_iff_iff,zb4,List.all_map,List.all_eq_true]
     constructor
     ·intro h
      exact ⟨hu,fun x hx=>by have:=h x hx;simpa using this⟩
     ·rintro ⟨_,h⟩ x hx
      have:=h x hx
      simpa using this
    rw [this]
    rfl
   ·have hne:(xs==zeF xs)=false:=by
     cases h:(xs==zeF xs) with
     | false=>rfl
     | true=>
      have e:=eq_of_beq h
      exact absurd (e▸zeJ xs) hu
    have hp:zbW os.length 0 (xs.map D.int)=false:=by
     cases h:zbW os.length 0 (xs.map D.int) with
     | false=>rfl
     | true=>exact absurd (zb4.mp h).1 hu
    simp only [hne,qax,if_false]
    ac_nf0
    simp [zh8,hp]
 | _=>simp [isT,zh8]
noncomputable def cvI (m:Int) (os:List (List Int×Int)) (ls:List Int):Bool:=((zeF ((zcY os ls).flatMap (·.1))).length:Int)==m
noncomputable def zjN (m:Int) (os:List (List Int×Int)) (d:D):Bool:=zh8 os.length d && (match d with | .tup ds=>(match zf2 ds with | some ls=>cvI m os ls | none=>false) | _=>false)
theorem zlc {d:D} (h:zh8 os.length d=false):zjN m os d=false:=by unfold zjN;rw [h];rfl
theorem Lt.gk {ls:List Int} (h:Lt os ls) (s:Stk m os):gk (tI ls):=zlX (by have:=h.len s;omega)
theorem zjC {ls:List Int} (h:Lt os ls):zjN m os (tI ls)=cvI m os ls:=by
 unfold zjN
 rw [h.lot]
 unfold tI
 simp only [zei,Bool.true_and]
theorem zjE (s:Stk m os) {d:D} (g:gk d):Ev (F_20 [zaK m os,d]) (.bl (zjN m os d)):=by
 refine .of_wp fun h=> ?_
 rw [d_20]
 simp only [G_20]
 ac_nf0
 rw [zoB s g]
 ac_nf0
 cases hp:zh8 os.length d with
 | false=>
  rw [zlc hp]
  simp only [qax,if_false]
  ac_nf0
  exact ⟨trivial,.refl⟩
 | true=>
  obtain ⟨ls,rfl,hu,b⟩:=zim hp
  have L:Lt os ls:=⟨hu,b⟩
  have e1:=zlk s hu b
  have hl:=L.len s
  have hol:(zcY os ls).length<=12:=by unfold zcY;rw [qaH];exact hl
  have e2:=(znW s (d:= .lst ((zcY os ls).map zbt)) rfl hol (zfw b)).noX
  rw [zjC L]
  simp only [if_true]
  ac_nf0
  unfold tI at e1
  rw [e1]
  ac_nf0
  refine e2.wp fun h' g'=> ?_
  ac_nf0
  first | exact ⟨trivial,g'⟩ | exact ⟨g',rfl⟩ | exact ⟨rfl,g'⟩
theorem zna (s:Stk m os) {d:D} (g:gk d) (h:zjN m os d=false):EvX (F_21 [zaK m os,d]) "NoCover":=by
 rw [d_21]
 simp only [G_21]
 ac_nf0
 refine Ev.bindX (zjE s g) ?_
 rw [h]
 ac_nf0
 exact .raise
theorem zlA (s:Stk m os) {d:D} (g:gk d) (h:zjN m os d=true):Ev (F_21 [zaK m os,d]) .non:=by
 rw [d_21]
 simp only [G_21]
 ac_nf0
 refine Ev.bind (zjE s g) ?_
 rw [h]
 ac_nf0
 exact .pure
theorem zqF:zoK (.int 10) (.int 39)=pure (.int (10^39)):=by
 unfold zoK dII
 simp only
 rw [qa4 (by decide)]
 rfl
noncomputable def zs2:List D:=[.non,.bl true,.bl false,.int (-1),.int 0,.int 1,.int 2,.str "",.str "0",.tup [],.tup [.int 0],.tup [.int 0,.int 1],.tup [.int 1,.int 0],.tup [.int 0,.int 0],.tup [.bl true],.lst [.int 0],.dct,.tup [.tup [.int 0]],.tup [.non],.int (10^39),.tup [.int 12],.tup [.int (-1)],.tup [.int 0,.str "1"],.lst [.int 0,.int 1],.tup [.int 0,.int 1,.int 2]]
theorem zrq: ∀ d∈zs2,gk d:=by
 have h:zs2.all gkB=true:=rfl
 intro d hd
 exact zpg (List.all_eq_true.mp h d hd)
theorem zsk {b:Nat} {h:Hh} (q:Bx b h) {P:D->Hh->Prop} (k: ∀ d h',gk d->Ext b h h'->P d h'):wp (F_43 [.cel b]) h P:=by
 rw [d_43]
 simp only [G_43]
 ac_nf0
 rw [zqF]
 ac_nf0
 refine zbh q (by decide) (by decide) fun t h2 t0 t1 x2=> ?_
 obtain ⟨d,ed,hd⟩:=zl5 (xs:=zs2) t0 t1
 unfold zs2 at ed
 ac_nf0
 rw [ed]
 ac_nf0
 exact k _ _ (zrq d hd) x2
theorem zpC (s:Stk m os) {h:Hh} {b:Nat} {ys:List Int} {P:D->Hh->Prop} (q:Bx b h) (hy:ys.length<=12) (k: ∀ d h',gk d->Ext b h h'->P d h'):wp (F_53 [.cel b,zaK m os,tI ys]) h P:=by
 have ol:=s.len
 rw [d_53]
 simp only [G_53]
 ac_nf0
 refine zbh q (by omega) (by omega) fun t h2 t0 t1 x2=> ?_
 ac_nf0
 refine zsk x2.1 fun odd h3 go x3=> ?_
 have kw:=go.1
 ac_nf0
 rw [zhf]
 ac_nf0
 have c1:=zg0 (ys.map D.int) none (some t)
 have c2:=zg0 (ys.map D.int) (some (t+1)) none
 have c3:=zg0 (ys.map D.int) (some (-1)) none
 have c4:=zg0 (ys.map D.int) (some t) none
 rw [qaH] at c1 c2 c3 c4
 have g1:=zaL (show (L3.zfi (ys.map D.int) none (some t)).length+(L3.zfi (ys.map D.int) (some (t+1)) none).length<=1000 by omega)
 have g2:=zaL (show ys.length+1<=1000 by omega)
 have g3:=zaL (show ys.length+(L3.zfi (ys.map D.int) (some (-1)) none).length<=1000 by omega)
 have g4:=zaL (show (L3.zfi (ys.map D.int) none (some t)).length+1<=1000 by omega)
 have g5:=zaL (show (L3.zfi (ys.map D.int) none (some t)).length+((L3.zfi (ys.map D.int) (some t) none).length+1)<=1000 by omega)
 have g6:=zaL (show (L3.zfi (ys.map D.int) none (some t)).length+1+(L3.zfi (ys.map D.int) (some t) none).length<=1000 by omega)
 have e1:=zdL (j:=(os.length:Int)) (by omega) (by omega)
 rw [qaB] at e1
 repeat (ac_nf0;simp only [g1,g2,g3,g4,g5,g6,e1,zhf])
 ac_nf0
 refine zbh x3.1 (by decide) (by decide) fun v h4 v0 v1 x4=> ?_
 ac_nf0
 refine zph v0 (by simpa using v1) fun d hd=> ?_
 ac_nf0
 refine k d h4 ?_ ((x2.trans x3).trans x4)
 have ki: ∀ x∈ys.map D.int,kn x=true:=fun x hx=>by obtain ⟨i,_,rfl⟩:=qaU.mp hx;rfl
 have hl:(ys.map D.int).length<=12:=by rw [qaH];exact hy
 have kc: ∀ {lo hi:Option Int}, ∀ x∈L3.zfi (ys.map D.int) lo hi,kn x=true:=fun x hx=>ki x (zpm hx)
 have k1: ∀ {d:D},kn d=true-> ∀ x∈[d],kn x=true:=fun h x hx=>by
  rw [List.mem_singleton.mp hx]
  exact h
 have ka: ∀ {as bs:List D},(∀ x∈as,kn x=true)->(∀ x∈bs,kn x=true)-> ∀ x∈as++bs,kn x=true:=fun h1 h2 x hx=>(qaK.mp hx).elim (h1 x) (h2 x)
 simp only [qaP,qaF,or_false] at hd
 rcases hd with rfl | rfl | rfl | rfl | rfl | rfl | rfl | rfl | rfl | rfl | rfl | rfl
 ·exact gkT (by rw [qav];omega) (ka kc kc)
 ·exact gkT (by rw [qav,List.length_singleton];omega) (ka ki (k1 rfl))
 ·exact gkT (by rw [List.length_reverse];omega) fun x hx=>ki x (List.mem_reverse.mp hx)
 ·exact zpg rfl
 ·exact gkT (by rw [qav];omega) (ka ki kc)
 ·exact go
 ·exact gkT (by rw [qav,List.length_singleton];omega) (ka ki (k1 kw))
 ·refine gkT (by rw [qav,qaE];omega) (ka kc fun x hx=> ?_)
  rcases qaP.mp hx with rfl | z
  ·exact kw
  ·exact kc x z
 ·exact zlX (by simp;omega)
 ·exact gkT (by omega) ki
 ·exact zpg rfl
 ·exact gkT (by simp) (k1 rfl)
theorem zjr (s:Stk m os) {s1:Option D}: ∀ (ls fs:List Int) (x3:Option D),(∀ x∈ls,0<=x/\x<os.length)->fs.length+ls.length*12<=500->
  ∃ y3,zbc (fun x sd=>zbw (List.set sd 3 (some x))) (ls.map D.int) [some (zaK m os),s1,some (.lst (fs.map D.int)),x3]=pure (.nx [some (zaK m os),s1,some (.lst ((fs++(zcY os ls).flatMap (·.1)).map D.int)),y3])
 | [],fs,x3,_,_=>⟨x3,by simp [zcY,zcy]⟩
 | x::r,fs,x3,hb,hl=>by
  have bx:=hb x qau
  have mo:os.getD x.toNat ([],0)∈os:=by
   have:x.toNat<os.length:=by omega
   simp [List.getD,this]
  have ol:=s.olen _ mo
  have m1:=s.m1
  simp only [qaE] at hl
  obtain ⟨y3,ih⟩:=zjr s (s1:=s1) r (fs++(os.getD x.toNat ([],0)).1) (some (.int x)) (fun y hy=>hb y (qan _ hy)) (by rw [qav];omega)
  refine ⟨y3,?_⟩
  have ea:=zda (os:=os) bx.1 bx.2
  have f:=zaL (show fs.length+(os.getD x.toNat ([],0)).1.length<=1000 by omega)
  rw [qaM,zcr]
  have eo:zcY os (x::r)=os.getD x.toNat ([],0)::zcY os r:=rfl
  rw [eo,List.flatMap_cons, <-List.append_assoc, <-ih]
  generalize zbc (fun x sd=>zbw (List.set sd 3 (some x))) (r.map D.int)=rest
  simp only [zbw]
  ac_nf0
  rw [zhf]
  ac_nf0
  rw [ea]
  ac_nf0
  rw [f]
  ac_nf0
  rw [List.map_append]
theorem zop (s:Stk m os) {ls:List Int} (h:Lt os ls): ∀ x∈zeF ((zcY os ls).flatMap (·.1)),0<=x/\x<m:=fun x hx=>by
 obtain ⟨o,ho,hx⟩:=List.mem_flatMap.mp (zeD.mp hx)
 exact s.bd o (zfw h.2 o ho) x hx
theorem zle (s:Stk m os) {d:D} (g:gk d):F_52 [zaK m os,d]=pure (.bl (zjN m os d)):=by
 rw [d_52]
 simp only [G_52]
 ac_nf0
 rw [zpu s g]
 ac_nf0
 cases hp:zh8 os.length d with
 | false=>
  rw [zlc hp]
  ac_nf0
 | true=>
  obtain ⟨ls,rfl,hu,b⟩:=zim hp
  have L:Lt os ls:=⟨hu,b⟩
  have ll:=L.len s
  have m0:=s.m0
  have m1:=s.m1
  obtain ⟨y3,e1⟩:=zjr s (s1:=some (tI ls)) ls [] none b (by simp;omega)
  rw [List.nil_append,List.map_nil] at e1
  have hfl:((zcY os ls).flatMap (·.1)).length<=144:=by
   have h3:(zcY os ls).length=ls.length:=by unfold zcY;simp
   have:=zjy (os:=zcY os ls) (n:=12) fun o ho=>by
    have:=s.olen o (zfw L.2 o ho)
    omega
   omega
  have hsl:((((zcY os ls).flatMap (·.1)).foldl step_dedup []).length)<64:=by
   have e:(zeF ((zcY os ls).flatMap (·.1))).length=(((zcY os ls).flatMap (·.1)).foldl step_dedup []).length:=(za6 _).length_eq
   have:=zgq (by omega) (zeJ ((zcY os ls).flatMap (·.1))) (zop s L)
   omega
  rw [zjC L]
  simp only [tI] at e1
  ac_nf0
  rw [e1]
  ac_nf0
  rw [zh3 rfl hsl (by omega)]
  ac_nf0
  rw [zoA]
  ac_nf0
  have el:zcv (.int m)=pure (.lst (((List.range m.toNat).map fun (k:Nat)=>(k:Int)).map D.int)):=by
   show (if 0<=m/\m<1000 then _ else _)=_
   rw [qa4 ⟨by omega,by omega⟩,zbp]
  rw [el]
  ac_nf0
  rw [ziK,zkJ (by omega) (zeJ _) (zop s L)]
  rfl
theorem zla: ∀ (f:Nat) (x:Sy),(zdm f x).os.length<=x.os.length
 | 0,x=>qaV _
 | f+1,x=>by
  rw [zdm]
  split
  ·exact qaV _
  ·refine qaS (zla f _) ?_
   have e:(nxt x).os.length=(N1 x.m x.os).length:=by unfold nxt osN zdQ;simp
   rw [e]
   exact zk2
noncomputable def la (m:Int) (os:List (List Int×Int)):Sy:=zdm 25 (x0 m os)
theorem zmu (s:Stk m os) (hf:Ful m os):In (la m os):=zjm 25 (zpc s hf) _ (qak _ qau)
theorem zt0:(la m os).os.length<=os.length:=zla 25 (x0 m os)
theorem zmM {d:D} (h:zjN m os d=true):zh8 os.length d=true:=by
 unfold zjN at h
 exact (qaG _ _▸h).1
noncomputable def zqd (x:Sy) (ls:List Int):List Int:=ls.map fun j=>x.ns.getD j.toNat 0
theorem zi9 {fi:FA} {src:List (Option Nat)} {sd:Sd} {te:FE} {x:Sy} (i:In x) {ls:List Int} {d:D} (L:Lt x.os ls) (hi:fi sd=pure (ls.map D.int)) (eb:zaq src sd=[none,some d]) (he: ∀ j:Int,te [some (.int j),some d]=ofO (atI (x.ns.map D.int) j)):
  zao fi (zaw 0) (fun _=>pure true) te src sd=pure (.lst ((zqd x ls).map D.int)):=by
 have ll:=L.len i.s
 unfold zqd
 rw [qaT,show ls.map (D.int∘fun j=>x.ns.getD j.toNat 0)=ls.filterMap fun j=>some (.int (x.ns.getD j.toNat 0)) by simp [Function.comp_def]]
 refine zax (g':=D.int) hi (by omega) fun j hj=> ?_
 have hb:=L.2 j hj
 have ea:=zfd (xs:=x.ns) (j:=j.toNat) (by rw [i.nl];omega)
 rw [show ((j.toNat:Nat):Int)=j by omega] at ea
 rw [eb]
 simp only [za2]
 ac_nf0
 rw [he,ea]
 ac_nf0
theorem zqT (s:Stk m os) (hf:Ful m os) {ls:List Int} (L:Lt (la m os).os ls) (hc:zjN (la m os).m (la m os).os (tI ls)=true):Ev (F_25 [zaK m os,tI ls]) (tI (zqd (la m os) ls)):=by
 have i:=zmu s hf
 have hle:=zt0 (m:=m) (os:=os)
 have L0:Lt os ls:=⟨L.1,fun x hx=>by have:=L.2 x hx;omega⟩
 have e1:=ziy s (L0.gk s)
 rw [L0.lot,qa4 rfl] at e1
 have e2:=zhG s hf
 have e3:=zlA i.s (L.gk i.s) hc
 have e4: ∀ {s0:Option D},zao (iSq (zaf 1)) (zaw 0) (fun _=>pure true) zdy [none,some 2] [s0,some (tI ls),some (zaV (la m os))]=pure (.lst ((zqd (la m os) ls).map D.int)):=fun {s0}=>by
  refine zi9 (d:=zaV (la m os)) i L (by ac_nf0) rfl fun j=> ?_
  have a2:dIx (zaV (la m os)) (.int 2)=pure (.tup ((la m os).ns.map D.int)):=rfl
  simp only [zdy]
  ac_nf0
  rw [a2]
  ac_nf0
 have a0:dIx (zaV (la m os)) (.int 0)=pure (zaK (la m os).m (la m os).os):=rfl
 refine .of_wp fun h=> ?_
 rw [d_25]
 simp only [G_25]
 rw [show zaV (zdm 25 (x0 m os))=zaV (la m os) from rfl] at e2
 simp only [tI] at e1 e3 e4 ⊢
 ac_nf0
 rw [e1]
 ac_nf0
 refine e2.wp fun h1 g1=> ?_
 ac_nf0
 rw [a0]
 ac_nf0
 refine e3.wp fun h2 g2=> ?_
 ac_nf0
 rw [e4]
 ac_nf0
 have g:=g1.trans g2
 first | exact ⟨trivial,g⟩ | exact ⟨g,trivial⟩ | exact ⟨rfl,g⟩ | exact g
theorem zq6 (s:Stk m os) (hf:Ful m os) {d:D} (g:gk d) (hc:zjN (la m os).m (la m os).os d=false):EvX (F_25 [zaK m os,d]) "NoCover":=by
 have i:=zmu s hf
 have e1:=ziy s g
 have e2:=zhG s hf
 have e3:=zna i.s g hc
 have a0:dIx (zaV (la m os)) (.int 0)=pure (zaK (la m os).m (la m os).os):=rfl
 rw [d_25]
 simp only [G_25]
 rw [show zaV (zdm 25 (x0 m os))=zaV (la m os) from rfl] at e2
 ac_nf0
 rw [e1]
 cases hp:zh8 os.length d with
 | false=>
  simp only [qax,if_false,zgp]
  exact .raise
 | true=>
  simp only [if_true,pure_bind]
  refine Ev.bindX e2 ?_
  ac_nf0
  rw [a0]
  ac_nf0
  exact EvX.left e3
theorem ztk:F_54 [.exn "NoCover"]=pure (.str "cover"):=by
 funext h
 rfl
theorem zqD {d:D} (hx:EvX (F_25 [zaK m os,d]) "NoCover"):Ev (F_55 [zaK m os,d]) (.str "cover"):=by
 rw [d_55]
 simp only [G_55,zbl,zcF,zgU,pure_bind,zhE,List.set,bind_assoc]
 refine Ev.bind (znK (c:="NoCover") (d:= .str "cover") ?_ rfl ztk) (.of rfl)
 ac_nf0
 exact EvX.left hx
theorem zqX {d r:D} (hx:Ev (F_25 [zaK m os,d]) r):Ev (F_55 [zaK m os,d]) (.str "told"):=by
 rw [d_55]
 simp only [G_55,zbl,zcF,zgU,pure_bind,zhE,List.set,bind_assoc]
 refine Ev.bind (zoV (o:= .nx [some (zaK m os),some d,some (.str "told"),none]) ?_) (.of rfl)
 ac_nf0
 exact Ev.bind hx .pure
theorem zpn (s:Stk m os) (hf:Ful m os) {d:D} (g:gk d) {s0 s1 s2 s5 s7 s8 s9 x11 x12:Option D} {h:Hh} {P:Out->Hh->Prop}
  (k: ∀ y11 y12 h',P (.nx [s0,s1,s2,some (zaK m os),some (zaK (la m os).m (la m os).os),s5,some (tI (la m os).ns),s7,s8,s9,some d,y11,y12]) h'):
  wp (zft [s0,s1,s2,some (zaK m os),some (zaK (la m os).m (la m os).os),s5,some (tI (la m os).ns),s7,s8,s9,some d,x11,x12]) h P:=by
 have i:=zmu s hf
 have e1:=zle i.s g
 have i0:zfP [.bl false]=pure (.int 0):=rfl
 have i1:zfP [.bl true]=pure (.int 1):=rfl
 simp only [zft]
 cases hc:zjN (la m os).m (la m os).os d with
 | false=>
  have es:=zqD (zq6 s hf g hc)
  rw [hc] at e1
  ac_nf0
  rw [e1]
  ac_nf0
  refine es.wp fun h1 g1=> ?_
  ac_nf0
  rw [i0]
  ac_nf0
  rw [zkS _ _ zkF zkF]
  ac_nf0
  simp only [beq_self_eq_true]
  ac_nf0
  exact k _ _ _
 | true=>
  obtain ⟨ls,rfl,hu,hb⟩:=zim (zmM hc)
  have L:Lt (la m os).os ls:=⟨hu,hb⟩
  have el:=zqT s hf L hc
  have es:=zqX el
  rw [hc] at e1
  have e4: ∀ {y11 y12:Option D},zao (iSq (zaf 10)) (zaw 0) (fun _=>pure true) ziL [none,some 6] [s0,s1,s2,some (zaK m os),some (zaK (la m os).m (la m os).os),s5,some (tI (la m os).ns),s7,s8,s9,some (tI ls),y11,y12]=pure (.lst ((zqd (la m os) ls).map D.int)):=fun {y11 y12}=>by
   refine zi9 (d:=tI (la m os).ns) i L (by ac_nf0) rfl fun j=> ?_
   simp only [ziL]
   ac_nf0
  have en:=zrS (zqd (la m os) ls) (zqd (la m os) ls)
  rw [beq_self_eq_true] at en
  simp only [tI] at e1 el es e4 en k ⊢
  ac_nf0
  rw [e1]
  ac_nf0
  refine es.wp fun h1 g1=> ?_
  ac_nf0
  rw [i1]
  ac_nf0
  rw [zkS _ _ znS znS]
  ac_nf0
  simp only [beq_self_eq_true]
  ac_nf0
  rw [e4]
  ac_nf0
  refine el.wp fun h2 g2=> ?_
  ac_nf0
  rw [en]
  ac_nf0
  exact k _ _ _
theorem zh5 (s:Stk m os) (hf:Ful m os) {s0 s1 s2 s5 s7 s8 s9:Option D}: ∀ (ds:List D) {h:Hh} {x10 x11 x12:Option D} {P:Out->Hh->Prop},(∀ d∈ds,gk d)->
  (∀ y10 y11 y12 h',P (.nx [s0,s1,s2,some (zaK m os),some (zaK (la m os).m (la m os).os),s5,some (tI (la m os).ns),s7,s8,s9,y10,y11,y12]) h')->
  wp (zbc (fun x sd=>zft (List.set sd 10 (some x))) ds [s0,s1,s2,some (zaK m os),some (zaK (la m os).m (la m os).os),s5,some (tI (la m os).ns),s7,s8,s9,x10,x11,x12]) h P
 | [],h,x10,x11,x12,P,_,k=>by
  rw [zcy,zam]
  exact k _ _ _ _
 | d::r,h,x10,x11,x12,P,hd,k=>by
  have ih:=fun (h:Hh) (x10 x11 x12:Option D)=>zh5 s hf (s0:=s0) (s1:=s1) (s2:=s2) (s5:=s5) (s7:=s7) (s8:=s8) (s9:=s9) r (h:=h) (x10:=x10) (x11:=x11) (x12:=x12) (P:=P) (fun y hy=>hd y (qan _ hy)) k
  rw [zcr]
  generalize zbc (fun x sd=>zft (List.set sd 10 (some x))) r=rest at ih ⊢
  simp only [List.set,zas]
  exact zpn s hf (hd d qau) fun y11 y12 h'=>ih _ _ _ _
theorem zlW {b:Nat} (i:Int) {h:Hh} {Q:Option D->Hh->Prop} (q:Bx b h) (k: ∀ o h',Ext b h h'->(o=none\/o=some (.int i))->Q o h'):
  wp (za2 (zaw 0) zgA zgR [none,some (.cel b)] (.int i)) h Q:=by
 simp only [za2,zgA,zgR]
 ac_nf0
 refine zbh q (by decide) (by decide) fun t h2 t0 t1 x2=> ?_
 ac_nf0
 split
 ·rw [zam]
  exact k _ _ x2 (.inr rfl)
 ·rw [zam]
  exact k _ _ x2 (.inl rfl)
theorem zjq (s:Stk m os) {b:Nat} {e0:Option D}: ∀ (yss:List (List Int)) {h:Hh} {P:List D->Hh->Prop},Bx b h->(∀ ys∈yss,ys.length<=12)->(∀ ds h',Bx b h'->(∀ d∈ds,gk d)->ds.length=yss.length->P ds h')->
  wp (zdi (za2 (zaw 0) (fun _=>pure true) ziR [e0,some (.cel b),some (zaK m os)]) (yss.map tI)) h P
 | [],h,P,q,_,k=>by
  rw [List.map_nil,zdi,zam]
  exact k [] h q (fun d hd=>by cases hd) rfl
 | ys::r,h,P,q,hy,k=>by
  have bw:=fun (P:D->Hh->Prop)=>zpC s q (hy ys qau) (P:=P)
  rw [qaM,zdi,zas]
  simp only [za2,ziR]
  simp only [tI] at bw
  ac_nf0
  refine bw _ fun d h2 g x2=> ?_
  ac_nf0
  refine zjq s r x2.1 (fun y hy'=>hy y (qan _ hy')) fun ds h3 q3 gd hl=> ?_
  ac_nf0
  refine k _ _ q3 (fun d' hd=> ?_) (by simp [hl])
  rcases qaP.mp hd with rfl | hd
  ·exact g
  ·exact gd d' hd
theorem zjg {ns:List Int} (hb: ∀ i∈ns,Builtin.Int.intBits i<=2^20): ∀ (ds:List D) {h:Hh} {x1 x2 x3 x4 x5 x6 x7 x8 x9 x10 x11 x12:Option D},(∀ d∈ds, ∃ i:Int,d= .int i/\0<=i/\i<6)->
  wp (zbc (fun x sd=>do let sd1<-zaw 1 x sd;zfX sd1) ds [some (.scr (ns.map D.int)),x1,x2,x3,x4,x5,x6,x7,x8,x9,x10,x11,x12]) h fun o _=> ∃ sd,o= .nx sd
 | [],h,x1,x2,x3,x4,x5,x6,x7,x8,x9,x10,x11,x12,_=>by rw [zcy,zam];exact ⟨_,rfl⟩
 | d::r,h,x1,x2,x3,x4,x5,x6,x7,x8,x9,x10,x11,x12,hd=>by
  obtain ⟨i,rfl,i0,i1⟩:=hd _ qau
  have ih: ∀ {h:Hh} {x1 x2 x3 x4 x5 x6 x7 x8 x9 x10 x11 x12:Option D},wp (zbc (fun x sd=>do let sd1<-zaw 1 x sd;zfX sd1) r [some (.scr (ns.map D.int)),x1,x2,x3,x4,x5,x6,x7,x8,x9,x10,x11,x12]) h fun o _=> ∃ sd,o= .nx sd:=zjg hb r fun y hy=>hd y (qan _ hy)
  rw [zcr]
  generalize zbc (fun x sd=>do let sd1<-zaw 1 x sd;zfX sd1) r=rest at ih ⊢
  simp only [zfX]
  ac_nf0
  refine zrT hb i0 i1 fun z=> ?_
  have qb:Bx h.length (h++[.lst [.int z]]):=⟨z,by simp⟩
  generalize h.length=b at qb ⊢
  generalize h++[.lst [.int z]]=h1 at qb ⊢
  ac_nf0
  refine zm5 qb fun m os h2 q2 s f1=> ?_
  have hf:=(zio (by have:=s.m0;omega)).mp f1
  have iL:=zmu s hf
  have sL:=iL.s
  have nl:=iL.nl
  have olL:=sL.len
  have es:=zms s hf
  rw [show zaV (zdm 25 (x0 m os))=zaV (la m os) from rfl] at es
  have eg: ∀ {s0 s1 s2 s3 y4 y5 y6 y7 y8 y9 y10 y11 y12:Option D},zbO 3 (zau (zaw 4) (zau (zaw 5) (zau (zaw 6) zbP))) (zaV (la m os)) [s0,s1,s2,s3,y4,y5,y6,y7,y8,y9,y10,y11,y12]=pure [s0,s1,s2,s3,some (zaK (la m os).m (la m os).os),some (tI (la m os).ts),some (tI (la m os).ns),y7,y8,y9,y10,y11,y12]:=rfl
  have r1:=zdL (j:=((la m os).ns.length:Int)) (by omega) (by omega)
  rw [qaB] at r1
  ac_nf0
  refine es.wp fun h3 g3=> ?_
  have q3:=(Gro.ext q2 g3).1
  ac_nf0
  rw [eg]
  have el:zdn [tI (la m os).ns]=pure (.int ((la m os).ns.length:Int)):=by
   unfold tI
   ac_nf0
  generalize hts:tI (la m os).ts=dts
  generalize hns:tI (la m os).ns=dns at el ⊢
  ac_nf0
  rw [el]
  ac_nf0
  rw [r1]
  ac_nf0
  unfold zao
  ac_nf0
  rw [zaL (by simp;omega)]
  ac_nf0
  refine ziv (b:=b) (turn:=za2 (zaw 0) zgA zgR [none,some (.cel b)]) (fun i {h Q} q k=>zlW i q k) _ q3 fun ys h4 x4 hsub=> ?_
  ac_nf0
  have yl:ys.length<=12:=by
   have:=hsub.length_le
   simp at this
   omega
  rw [show [D.tup (((List.range (la m os).ns.length).map fun (k:Nat)=>(k:Int)).map D.int),.tup (ys.map D.int)]=[(List.range (la m os).ns.length).map (fun (k:Nat)=>(k:Int)),ys].map tI from rfl]
  refine zjq sL [(List.range (la m os).ns.length).map (fun (k:Nat)=>(k:Int)),ys] x4.1 (fun y hy=> ?_) fun ds h5 q5 gd dl=> ?_
  ·simp only [qaP,qaF,or_false] at hy
   rcases hy with rfl | rfl
   ·simp;omega
   ·exact yl
  ac_nf0
  rw [zaL (by rw [dl];simp)]
  ac_nf0
  rw [<- hns]
  refine zh5 s hf _ (fun d hd=> ?_) fun y10 y11 y12 h'=> ?_
  ·rcases qaP.mp hd with rfl | hd
   ·exact zlX (xs:=(List.range (la m os).ns.length).map fun (k:Nat)=>(k:Int)) (by simp;omega)
   rcases qaP.mp hd with rfl | hd
   ·exact zlX (xs:=ys) (by omega)
   ·exact gd d hd
  ac_nf0
  exact ih
theorem znd: ∀ ns:List Int,ns.length<=63->(∀ i∈ns,Builtin.Int.intBits i<=2^20)-> ∃ h',F_56 [.scr (ns.map D.int)] []= .ok (.bl true) h':=by
 intro ns _ hb
 have key:wp (F_56 [.scr (ns.map D.int)]) [] fun d _=>d= .bl true:=by
  rw [d_56]
  simp only [G_56]
  ac_nf0
  simp only [zow]
  ac_nf0
  simp only [ztz]
  ac_nf0
  generalize hn:(if (if (4:Int)<(ns.length:Int) then (4:Int) else (ns.length:Int))>1 then (if (4:Int)<(ns.length:Int) then (4:Int) else (ns.length:Int)) else (1:Int))=n
  have n0:0<=n/\n<=6:=by
   rw [<- hn]
   split<;>split<;>omega
  rw [zbQ n0.1 (by omega)]
  ac_nf0
  refine zeM (zjg hb _ fun d hd=> ?_) ?_
  ·obtain ⟨i,e,i0,i1⟩:=zlN hd
   exact ⟨i,e,i0,by omega⟩
  ·rintro o h' ⟨sd,rfl⟩
   ac_nf0
 obtain ⟨d,h',e,rfl⟩:=key
 exact ⟨h',e⟩
end K63
namespace K63
open PySem PySem.Spec PyProof.Rows L2 L3
theorem zrf {l:W.OpenLaw} {w:World} {K:W.Frag} {h:Heap} {mg:Str->Option Value} {fa a_0 a_1 a_2 a_3 a_4 a_5 a_6 a_7 a_36 a_37 a_38 a_39 a_40 a_41 a_50 a_44 a_45 a_46 a_47 a_48 a_49 a_43 a_53 a_42 a_51 a_52 a_54 a_8 a_9 a_10 a_13 a_35 a_15 a_16 a_11 a_12 a_32 a_31 a_30 a_27 a_26 a_22 a_17 a_29 a_28 a_23 a_19 a_18 a_34 a_33 a_24 a_14 a_20 a_21 a_25 a_55 a_56:Addr} (X:K.In h) (G:h.Ns mainGlobals mg) (hfa:mg "law"=some (.ref fa))
  {od_56 an_56:Option Addr} {sl_56:Array (Option Value)} {oc_56 kV_56 dc_56 pm_56 cd_56 ct_56:Value}
  {d_36 d_37 d_38 d_39 d_40 d_41 d_50 d_44 d_45 d_46 d_47 d_48 d_49 d_43 d_53 d_42 d_51 d_52 d_54 d_8 d_9 d_10 d_13 d_35 d_15 d_16 d_11 d_12 d_32 d_31 d_30 d_27 d_26 d_22 d_17 d_29 d_28 d_23 d_19 d_18 d_34 d_33 d_24 d_14 d_20 d_21 d_25 d_55:FuncData}
  (f_36:Fd K "_law_cell" s_36 a_36 d_36)
  (f_37:Fd K "_law_mix" s_37 a_37 d_37)
  (f_38:Fd K "_law_box" s_38 a_38 d_38)
  (f_39:Fd K "_law_take" s_39 a_39 d_39)
  (f_40:Fd K "_law_stock" s_40 a_40 d_40)
  (f_41:Fd K "_law_full" s_41 a_41 d_41)
  (f_50:Fd K "_law_alike_stock" s_50 a_50 d_50)
  (f_44:Fd K "_law_rules" s_44 a_44 d_44)
  (f_45:Fd K "_law_have" s_45 a_45 d_45)
  (f_46:Fd K "_law_thing_rules" s_46 a_46 d_46)
  (f_47:Fd K "_law_ruled" s_47 a_47 d_47)
  (f_48:Fd K "_law_left" s_48 a_48 d_48)
  (f_49:Fd K "_law_swept" s_49 a_49 d_49)
  (f_43:Fd K "_law_odd" s_43 a_43 d_43)
  (f_53:Fd K "_law_bent" s_53 a_53 d_53)
  (f_42:Fd K "_law_whole" s_42 a_42 d_42)
  (f_51:Fd K "_law_is_lot" s_51 a_51 d_51)
  (f_52:Fd K "_law_is_cover" s_52 a_52 d_52)
  (f_54:Fd K "_law_kind" s_54 a_54 d_54)
  (f_8:Fd K "is_whole" s_8 a_8 d_8)
  (f_9:Fd K "is_rising" s_9 a_9 d_9)
  (f_10:Fd K "is_lot" s_10 a_10 d_10)
  (f_13:Fd K "need_lot" s_13 a_13 d_13)
  (f_35:Fd K "not_ruled" s_35 a_35 d_35)
  (f_15:Fd K "things_together" s_15 a_15 d_15)
  (f_16:Fd K "have_all" s_16 a_16 d_16)
  (f_11:Fd K "is_full" s_11 a_11 d_11)
  (f_12:Fd K "need_full" s_12 a_12 d_12)
  (f_32:Fd K "rules" s_32 a_32 d_32)
  (f_31:Fd K "ruled_by" s_31 a_31 d_31)
  (f_30:Fd K "are_among" s_30 a_30 d_30)
  (f_27:Fd K "as_good_offers" s_27 a_27 d_27)
  (f_26:Fd K "table_of_offers" s_26 a_26 d_26)
  (f_22:Fd K "ruled_offers" s_22 a_22 d_22)
  (f_17:Fd K "offers_with" s_17 a_17 d_17)
  (f_29:Fd K "as_scarce_things" s_29 a_29 d_29)
  (f_28:Fd K "table_of_things" s_28 a_28 d_28)
  (f_23:Fd K "ruled_things" s_23 a_23 d_23)
  (f_19:Fd K "narrowed" s_19 a_19 d_19)
  (f_18:Fd K "rest_of" s_18 a_18 d_18)
  (f_34:Fd K "behind_sweep" s_34 a_34 d_34)
  (f_33:Fd K "stays_by_sweeps" s_33 a_33 d_33)
  (f_24:Fd K "lesser_stock" s_24 a_24 d_24)
  (f_14:Fd K "offers_of" s_14 a_14 d_14)
  (f_20:Fd K "is_cover" s_20 a_20 d_20)
  (f_21:Fd K "need_cover" s_21 a_21 d_21)
  (f_25:Fd K "led_back" s_25 a_25 d_25)
  (f_55:Fd K "_law_said" s_55 a_55 d_55)
  (e_56:W.nsIn K mainGlobals "law"=some (some (.ref a_56))) (l_56:K.lookup a_56=some ⟨oc_56,od_56,.func (W.fnOf "law" "law" (zeG s_56) (zcM s_56) (zae s_56) .none kV_56 dc_56 pm_56 an_56 cd_56 ct_56),sl_56⟩) (c_56:W.codeIn K cd_56 "law"=true) (k_56:W.keepIn K (.ref a_56)=true)
  (e_0:W.nsIn K mainGlobals "CoverError"=some (some (.ref a_0)))
  (e_1:W.nsIn K mainGlobals "NoStock"=some (some (.ref a_1)))
  (e_2:W.nsIn K mainGlobals "NoOffer"=some (some (.ref a_2)))
  (e_3:W.nsIn K mainGlobals "NoThing"=some (some (.ref a_3)))
  (e_4:W.nsIn K mainGlobals "NoCover"=some (some (.ref a_4)))
  (e_5:W.nsIn K mainGlobals "NoNumber"=some (some (.ref a_5)))
  (e_6:W.nsIn K mainGlobals "NotFull"=some (some (.ref a_6)))
  (e_7:W.nsIn K mainGlobals "NoRow"=some (some (.ref a_7)))
  (z_all:W.nsIn K mainGlobals "all"=some none)
  (z_bool:W.nsIn K mainGlobals "bool"=some none)
  (z_divmod:W.nsIn K mainGlobals "divmod"=some none)
  (z_enumerate:W.nsIn K mainGlobals "enumerate"=some none)
  (z_int:W.nsIn K mainGlobals "int"=some none)
  (z_isinstance:W.nsIn K mainGlobals "isinstance"=some none)
  (z_len:W.nsIn K mainGlobals "len"=some none)
  (z_list:W.nsIn K mainGlobals "list"=some none)
  (z_max:W.nsIn K mainGlobals "max"=some none)
  (z_min:W.nsIn K mainGlobals "min"=some none)
  (z_range:W.nsIn K mainGlobals "range"=some none)
  (z_set:W.nsIn K mainGlobals "set"=some none)
  (z_sorted:W.nsIn K mainGlobals "sorted"=some none)
  (z_tuple:W.nsIn K mainGlobals "tuple"=some none)
  (x_tab:zkO K a_0 [("NoStock",a_1),("NoOffer",a_2),("NoThing",a_3),("NoCover",a_4),("NoNumber",a_5),("NotFull",a_6),("NoRow",a_7)]=true)
  : ∃ fd:FuncData,(∀ (s:Shared) (v:Value),BindsTo s fd ⟨[v],[]⟩ [("script",v)])/\ ∀ base:Heap,K.In base->base.Ns mainGlobals mg->zbq l.prog w K mg base CX0 11 fa fd ["script"] (zbV K 1 F_56):=by
 have e:=hfa.symm.trans (W.mg_of X G e_56)
 cases e
 have F_56:=zaC (st:=s_56) l_56 c_56 k_56
 have b_56:=F_56.binds (ps:=["script"]) fun _ _ _ _ _ _ us hl=>match us,hl with | [_],_=>rfl
 have T:Tx K mg ⟨a_0,a_1,a_2,a_3,a_4,a_5,a_6,a_7,a_36,_,a_37,_,a_38,_,a_39,_,a_40,_,a_41,_,a_50,_,a_44,_,a_45,_,a_46,_,a_47,_,a_48,_,a_49,_,a_43,_,a_53,_,a_42,_,a_51,_,a_52,_,a_54,_,a_8,_,a_9,_,a_10,_,a_13,_,a_35,_,a_15,_,a_16,_,a_11,_,a_12,_,a_32,_,a_31,_,a_30,_,a_27,_,a_26,_,a_22,_,a_17,_,a_29,_,a_28,_,a_23,_,a_19,_,a_18,_,a_34,_,a_33,_,a_24,_,a_14,_,a_20,_,a_21,_,a_25,_,a_55,_,fa,_⟩:=
  {g_0:=W.mg_of X G e_0,
    g_1:=W.mg_of X G e_1,
    g_2:=W.mg_of X G e_2,
    g_3:=W.mg_of X G e_3,
    g_4:=W.mg_of X G e_4,
    g_5:=W.mg_of X G e_5,
    g_6:=W.mg_of X G e_6,
    g_7:=W.mg_of X G e_7,
    k_1:=e_1,
    k_2:=e_2,
    k_3:=e_3,
    k_4:=e_4,
    k_5:=e_5,
    k_6:=e_6,
    k_7:=e_7,
    x_exc:=zmq.of x_tab,
    n_all:=W.mg_none_of X G z_all,
    n_bool:=W.mg_none_of X G z_bool,
    n_divmod:=W.mg_none_of X G z_divmod,
    n_enumerate:=W.mg_none_of X G z_enumerate,
    n_int:=W.mg_none_of X G z_int,
    n_isinstance:=W.mg_none_of X G z_isinstance,
    n_len:=W.mg_none_of X G z_len,
    n_list:=W.mg_none_of X G z_list,
    n_max:=W.mg_none_of X G z_max,
    n_min:=W.mg_none_of X G z_min,
    n_range:=W.mg_none_of X G z_range,
    n_set:=W.mg_none_of X G z_set,
    n_sorted:=W.mg_none_of X G z_sorted,
    n_tuple:=W.mg_none_of X G z_tuple,
    m_36:=W.mg_of X G f_36.e,
    F_36:=f_36.F,
    b_36:=f_36.F.binds (ps:=["script","k"]) fun _ _ _ _ _ _ us hl=>match us,hl with | [_,_],_=>rfl,
    m_37:=W.mg_of X G f_37.e,
    F_37:=f_37.F,
    b_37:=f_37.F.binds (ps:=["cell","k"]) fun _ _ _ _ _ _ us hl=>match us,hl with | [_,_],_=>rfl,
    m_38:=W.mg_of X G f_38.e,
    F_38:=f_38.F,
    b_38:=f_38.F.binds (ps:=["script","k"]) fun _ _ _ _ _ _ us hl=>match us,hl with | [_,_],_=>rfl,
    m_39:=W.mg_of X G f_39.e,
    F_39:=f_39.F,
    b_39:=f_39.F.binds (ps:=["box","many"]) fun _ _ _ _ _ _ us hl=>match us,hl with | [_,_],_=>rfl,
    m_40:=W.mg_of X G f_40.e,
    F_40:=f_40.F,
    b_40:=f_40.F.binds (ps:=["box","most_things","most_offers"]) fun _ _ _ _ _ _ us hl=>match us,hl with | [_,_,_],_=>rfl,
    m_41:=W.mg_of X G f_41.e,
    F_41:=f_41.F,
    b_41:=f_41.F.binds (ps:=["box","most_things","most_offers"]) fun _ _ _ _ _ _ us hl=>match us,hl with | [_,_,_],_=>rfl,
    m_50:=W.mg_of X G f_50.e,
    F_50:=f_50.F,
    b_50:=f_50.F.binds (ps:=["box"]) fun _ _ _ _ _ _ us hl=>match us,hl with | [_],_=>rfl,
    m_44:=W.mg_of X G f_44.e,
    F_44:=f_44.F,
    b_44:=f_44.F.binds (ps:=["stock","by","offer"]) fun _ _ _ _ _ _ us hl=>match us,hl with | [_,_,_],_=>rfl,
    m_45:=W.mg_of X G f_45.e,
    F_45:=f_45.F,
    b_45:=f_45.F.binds (ps:=["stock","thing"]) fun _ _ _ _ _ _ us hl=>match us,hl with | [_,_],_=>rfl,
    m_46:=W.mg_of X G f_46.e,
    F_46:=f_46.F,
    b_46:=f_46.F.binds (ps:=["stock","by","thing"]) fun _ _ _ _ _ _ us hl=>match us,hl with | [_,_,_],_=>rfl,
    m_47:=W.mg_of X G f_47.e,
    F_47:=f_47.F,
    b_47:=f_47.F.binds (ps:=["stock","things"]) fun _ _ _ _ _ _ us hl=>match us,hl with | [_,_],_=>rfl,
    m_48:=W.mg_of X G f_48.e,
    F_48:=f_48.F,
    b_48:=f_48.F.binds (ps:=["stock","things","offers"]) fun _ _ _ _ _ _ us hl=>match us,hl with | [_,_,_],_=>rfl,
    m_49:=W.mg_of X G f_49.e,
    F_49:=f_49.F,
    b_49:=f_49.F.binds (ps:=["stock"]) fun _ _ _ _ _ _ us hl=>match us,hl with | [_],_=>rfl,
    m_43:=W.mg_of X G f_43.e,
    F_43:=f_43.F,
    b_43:=f_43.F.binds (ps:=["box"]) fun _ _ _ _ _ _ us hl=>match us,hl with | [_],_=>rfl,
    m_53:=W.mg_of X G f_53.e,
    F_53:=f_53.F,
    b_53:=f_53.F.binds (ps:=["box","stock","lot"]) fun _ _ _ _ _ _ us hl=>match us,hl with | [_,_,_],_=>rfl,
    m_42:=W.mg_of X G f_42.e,
    F_42:=f_42.F,
    b_42:=f_42.F.binds (ps:=["found"]) fun _ _ _ _ _ _ us hl=>match us,hl with | [_],_=>rfl,
    m_51:=W.mg_of X G f_51.e,
    F_51:=f_51.F,
    b_51:=f_51.F.binds (ps:=["stock","thing"]) fun _ _ _ _ _ _ us hl=>match us,hl with | [_,_],_=>rfl,
    m_52:=W.mg_of X G f_52.e,
    F_52:=f_52.F,
    b_52:=f_52.F.binds (ps:=["stock","thing"]) fun _ _ _ _ _ _ us hl=>match us,hl with | [_,_],_=>rfl,
    m_54:=W.mg_of X G f_54.e,
    F_54:=f_54.F,
    b_54:=f_54.F.binds (ps:=["e"]) fun _ _ _ _ _ _ us hl=>match us,hl with | [_],_=>rfl,
    m_8:=W.mg_of X G f_8.e,
    F_8:=f_8.F,
    b_8:=f_8.F.binds (ps:=["thing"]) fun _ _ _ _ _ _ us hl=>match us,hl with | [_],_=>rfl,
    m_9:=W.mg_of X G f_9.e,
    F_9:=f_9.F,
    b_9:=f_9.F.binds (ps:=["thing","bound"]) fun _ _ _ _ _ _ us hl=>match us,hl with | [_,_],_=>rfl,
    m_10:=W.mg_of X G f_10.e,
    F_10:=f_10.F,
    b_10:=f_10.F.binds (ps:=["stock","thing"]) fun _ _ _ _ _ _ us hl=>match us,hl with | [_,_],_=>rfl,
    m_13:=W.mg_of X G f_13.e,
    F_13:=f_13.F,
    b_13:=f_13.F.binds (ps:=["stock","lot"]) fun _ _ _ _ _ _ us hl=>match us,hl with | [_,_],_=>rfl,
    m_35:=W.mg_of X G f_35.e,
    F_35:=f_35.F,
    b_35:=f_35.F.binds (ps:=["count","ruled"]) fun _ _ _ _ _ _ us hl=>match us,hl with | [_,_],_=>rfl,
    m_15:=W.mg_of X G f_15.e,
    F_15:=f_15.F,
    b_15:=f_15.F.binds (ps:=["offers"]) fun _ _ _ _ _ _ us hl=>match us,hl with | [_],_=>rfl,
    m_16:=W.mg_of X G f_16.e,
    F_16:=f_16.F,
    b_16:=f_16.F.binds (ps:=["stock","offers"]) fun _ _ _ _ _ _ us hl=>match us,hl with | [_,_],_=>rfl,
    m_11:=W.mg_of X G f_11.e,
    F_11:=f_11.F,
    b_11:=f_11.F.binds (ps:=["stock"]) fun _ _ _ _ _ _ us hl=>match us,hl with | [_],_=>rfl,
    m_12:=W.mg_of X G f_12.e,
    F_12:=f_12.F,
    b_12:=f_12.F.binds (ps:=["stock"]) fun _ _ _ _ _ _ us hl=>match us,hl with | [_],_=>rfl,
    m_32:=W.mg_of X G f_32.e,
    F_32:=f_32.F,
    b_32:=f_32.F.binds (ps:=["table","other","number"]) fun _ _ _ _ _ _ us hl=>match us,hl with | [_,_,_],_=>rfl,
    m_31:=W.mg_of X G f_31.e,
    F_31:=f_31.F,
    b_31:=f_31.F.binds (ps:=["table"]) fun _ _ _ _ _ _ us hl=>match us,hl with | [_],_=>rfl,
    m_30:=W.mg_of X G f_30.e,
    F_30:=f_30.F,
    b_30:=f_30.F.binds (ps:=["numbers","others"]) fun _ _ _ _ _ _ us hl=>match us,hl with | [_,_],_=>rfl,
    m_27:=W.mg_of X G f_27.e,
    F_27:=f_27.F,
    b_27:=f_27.F.binds (ps:=["stock","offer"]) fun _ _ _ _ _ _ us hl=>match us,hl with | [_,_],_=>rfl,
    m_26:=W.mg_of X G f_26.e,
    F_26:=f_26.F,
    b_26:=f_26.F.binds (ps:=["stock"]) fun _ _ _ _ _ _ us hl=>match us,hl with | [_],_=>rfl,
    m_22:=W.mg_of X G f_22.e,
    F_22:=f_22.F,
    b_22:=f_22.F.binds (ps:=["stock"]) fun _ _ _ _ _ _ us hl=>match us,hl with | [_],_=>rfl,
    m_17:=W.mg_of X G f_17.e,
    F_17:=f_17.F,
    b_17:=f_17.F.binds (ps:=["stock","thing"]) fun _ _ _ _ _ _ us hl=>match us,hl with | [_,_],_=>rfl,
    m_29:=W.mg_of X G f_29.e,
    F_29:=f_29.F,
    b_29:=f_29.F.binds (ps:=["stock","thing"]) fun _ _ _ _ _ _ us hl=>match us,hl with | [_,_],_=>rfl,
    m_28:=W.mg_of X G f_28.e,
    F_28:=f_28.F,
    b_28:=f_28.F.binds (ps:=["stock"]) fun _ _ _ _ _ _ us hl=>match us,hl with | [_],_=>rfl,
    m_23:=W.mg_of X G f_23.e,
    F_23:=f_23.F,
    b_23:=f_23.F.binds (ps:=["stock"]) fun _ _ _ _ _ _ us hl=>match us,hl with | [_],_=>rfl,
    m_19:=W.mg_of X G f_19.e,
    F_19:=f_19.F,
    b_19:=f_19.F.binds (ps:=["offer","things"]) fun _ _ _ _ _ _ us hl=>match us,hl with | [_,_],_=>rfl,
    m_18:=W.mg_of X G f_18.e,
    F_18:=f_18.F,
    b_18:=f_18.F.binds (ps:=["stock","things","numbers"]) fun _ _ _ _ _ _ us hl=>match us,hl with | [_,_,_],_=>rfl,
    m_34:=W.mg_of X G f_34.e,
    F_34:=f_34.F,
    b_34:=f_34.F.binds (ps:=["stay"]) fun _ _ _ _ _ _ us hl=>match us,hl with | [_],_=>rfl,
    m_33:=W.mg_of X G f_33.e,
    F_33:=f_33.F,
    b_33:=f_33.F.binds (ps:=["stock"]) fun _ _ _ _ _ _ us hl=>match us,hl with | [_],_=>rfl,
    m_24:=W.mg_of X G f_24.e,
    F_24:=f_24.F,
    b_24:=f_24.F.binds (ps:=["stock"]) fun _ _ _ _ _ _ us hl=>match us,hl with | [_],_=>rfl,
    m_14:=W.mg_of X G f_14.e,
    F_14:=f_14.F,
    b_14:=f_14.F.binds (ps:=["stock","lot"]) fun _ _ _ _ _ _ us hl=>match us,hl with | [_,_],_=>rfl,
    m_20:=W.mg_of X G f_20.e,
    F_20:=f_20.F,
    b_20:=f_20.F.binds (ps:=["stock","thing"]) fun _ _ _ _ _ _ us hl=>match us,hl with | [_,_],_=>rfl,
    m_21:=W.mg_of X G f_21.e,
    F_21:=f_21.F,
    b_21:=f_21.F.binds (ps:=["stock","cover"]) fun _ _ _ _ _ _ us hl=>match us,hl with | [_,_],_=>rfl,
    m_25:=W.mg_of X G f_25.e,
    F_25:=f_25.F,
    b_25:=f_25.F.binds (ps:=["stock","lot"]) fun _ _ _ _ _ _ us hl=>match us,hl with | [_,_],_=>rfl,
    m_55:=W.mg_of X G f_55.e,
    F_55:=f_55.F,
    b_55:=f_55.F.binds (ps:=["stock","thing"]) fun _ _ _ _ _ _ us hl=>match us,hl with | [_,_],_=>rfl,
    m_56:=W.mg_of X G e_56,
    F_56:=F_56,
    b_56:=b_56}
 exact ⟨W.fnOf "law" "law" (zeG s_56) (zcM s_56) (zae s_56) .none kV_56 dc_56 pm_56 an_56 cd_56 ct_56,fun s v=> .of_eq rfl,fun base _ _=>ok_56 T⟩
theorem zuK {l:W.OpenLaw} {q:Program} {loose:List Str} {XP:(Str->Option Value)->Heap->Prop} {YP:World->Heap->Prop} {d:DefRec} {K:Params->W.Frag} (hn:l.most=some 63) (hdf:d.params.defaults=[])
  (hY: ∀ (w:World) (h:Heap),YP w h->(K w.params).In h)
  (F: ∀ (w:World) (mg:Str->Option Value) (fa:Addr) (h:Heap),(K w.params).In h->h.Ns mainGlobals mg->mg d.name=some (.ref fa)->
    ∃ fd:FuncData,(∀ (s:Shared) (u:Value),BindsTo s fd ⟨[u],[]⟩ [("script",u)])/\ ∀ base:Heap,(K w.params).In base->base.Ns mainGlobals mg->zbq l.prog w (K w.params) mg base CX0 11 fa fd ["script"] (zbV (K w.params) 1 F_56))
  (hm: ∀ ns:List Int,ns.length<=63->(∀ i∈ns,Builtin.Int.intBits i<=2^20)-> ∃ h',F_56 [.scr (ns.map D.int)] []= .ok (.bl true) h'):
  W.WalkO q loose XP YP l.row.toRowW d [] (fun f vs=>PySem.call f vs):=
 L2.zmE (n:=63) (k:=11) (x:="script") (CX:=fun _=>CX0) (sp:=fun w=>zbV (K w.params) 1 F_56) hn (by decide) hdf ⟨rfl,by decide,by decide⟩ hY F (fun w H a ns hl hw hS=>ztS hS (hm ns hl hw)) fun _ _ _ _ _ z=>z
end K63
open PySem PySem.W PyProof.Rows
set_option maxRecDepth 100000 in
set_option maxHeartbeats 0 in
theorem PySem.Challenge.cw_cheapcovers_k63_covers_led_back_holds : PySem.Challenge.rw_cheapcovers_k63_covers_led_back.Holds := by
 w_on; o_law; k_head; (case hw => w_witness2)
 k_fill
 refine K63.zuK (l := PySem.Challenge.rw_cheapcovers_k63_covers_led_back) rfl rfl (fun w h Y => W.kIn_of Y) ?F K63.znd
 case F =>
  intro w mg fa h KX G hmg
  refine' K63.zrf KX G hmg (L3.Fd.mk ?e__law_cell (L2.zaC ?l__law_cell ?c__law_cell ?k__law_cell)) (L3.Fd.mk ?e__law_mix (L2.zaC ?l__law_mix ?c__law_mix ?k__law_mix)) (L3.Fd.mk ?e__law_box (L2.zaC ?l__law_box ?c__law_box ?k__law_box)) (L3.Fd.mk ?e__law_take (L2.zaC ?l__law_take ?c__law_take ?k__law_take)) (L3.Fd.mk ?e__law_stock (L2.zaC ?l__law_stock ?c__law_stock ?k__law_stock)) (L3.Fd.mk ?e__law_full (L2.zaC ?l__law_full ?c__law_full ?k__law_full)) (L3.Fd.mk ?e__law_alike_stock (L2.zaC ?l__law_alike_stock ?c__law_alike_stock ?k__law_alike_stock)) (L3.Fd.mk ?e__law_rules (L2.zaC ?l__law_rules ?c__law_rules ?k__law_rules)) (L3.Fd.mk ?e__law_have (L2.zaC ?l__law_have ?c__law_have ?k__law_have)) (L3.Fd.mk ?e__law_thing_rules (L2.zaC ?l__law_thing_rules ?c__law_thing_rules ?k__law_thing_rules)) (L3.Fd.mk ?e__law_ruled (L2.zaC ?l__law_ruled ?c__law_ruled ?k__law_ruled)) (L3.Fd.mk ?e__law_left (L2.zaC ?l__law_left ?c__law_left ?k__law_left)) (L3.Fd.mk ?e__law_swept (L2.zaC ?l__law_swept ?c__law_swept ?k__law_swept)) (L3.Fd.mk ?e__law_odd (L2.zaC ?l__law_odd ?c__law_odd ?k__law_odd)) (L3.Fd.mk ?e__law_bent (L2.zaC ?l__law_bent ?c__law_bent ?k__law_bent)) (L3.Fd.mk ?e__law_whole (L2.zaC ?l__law_whole ?c__law_whole ?k__law_whole)) (L3.Fd.mk ?e__law_is_lot (L2.zaC ?l__law_is_lot ?c__law_is_lot ?k__law_is_lot)) (L3.Fd.mk ?e__law_is_cover (L2.zaC ?l__law_is_cover ?c__law_is_cover ?k__law_is_cover)) (L3.Fd.mk ?e__law_kind (L2.zaC ?l__law_kind ?c__law_kind ?k__law_kind)) (L3.Fd.mk ?e_is_whole (L2.zaC ?l_is_whole ?c_is_whole ?k_is_whole)) (L3.Fd.mk ?e_is_rising (L2.zaC ?l_is_rising ?c_is_rising ?k_is_rising)) (L3.Fd.mk ?e_is_lot (L2.zaC ?l_is_lot ?c_is_lot ?k_is_lot)) (L3.Fd.mk ?e_need_lot (L2.zaC ?l_need_lot ?c_need_lot ?k_need_lot)) (L3.Fd.mk ?e_not_ruled (L2.zaC ?l_not_ruled ?c_not_ruled ?k_not_ruled)) (L3.Fd.mk ?e_things_together (L2.zaC ?l_things_together ?c_things_together ?k_things_together)) (L3.Fd.mk ?e_have_all (L2.zaC ?l_have_all ?c_have_all ?k_have_all)) (L3.Fd.mk ?e_is_full (L2.zaC ?l_is_full ?c_is_full ?k_is_full)) (L3.Fd.mk ?e_need_full (L2.zaC ?l_need_full ?c_need_full ?k_need_full)) (L3.Fd.mk ?e_rules (L2.zaC ?l_rules ?c_rules ?k_rules)) (L3.Fd.mk ?e_ruled_by (L2.zaC ?l_ruled_by ?c_ruled_by ?k_ruled_by)) (L3.Fd.mk ?e_are_among (L2.zaC ?l_are_among ?c_are_among ?k_are_among)) (L3.Fd.mk ?e_as_good_offers (L2.zaC ?l_as_good_offers ?c_as_good_offers ?k_as_good_offers)) (L3.Fd.mk ?e_table_of_offers (L2.zaC ?l_table_of_offers ?c_table_of_offers ?k_table_of_offers)) (L3.Fd.mk ?e_ruled_offers (L2.zaC ?l_ruled_offers ?c_ruled_offers ?k_ruled_offers)) (L3.Fd.mk ?e_offers_with (L2.zaC ?l_offers_with ?c_offers_with ?k_offers_with)) (L3.Fd.mk ?e_as_scarce_things (L2.zaC ?l_as_scarce_things ?c_as_scarce_things ?k_as_scarce_things)) (L3.Fd.mk ?e_table_of_things (L2.zaC ?l_table_of_things ?c_table_of_things ?k_table_of_things)) (L3.Fd.mk ?e_ruled_things (L2.zaC ?l_ruled_things ?c_ruled_things ?k_ruled_things)) (L3.Fd.mk ?e_narrowed (L2.zaC ?l_narrowed ?c_narrowed ?k_narrowed)) (L3.Fd.mk ?e_rest_of (L2.zaC ?l_rest_of ?c_rest_of ?k_rest_of)) (L3.Fd.mk ?e_behind_sweep (L2.zaC ?l_behind_sweep ?c_behind_sweep ?k_behind_sweep)) (L3.Fd.mk ?e_stays_by_sweeps (L2.zaC ?l_stays_by_sweeps ?c_stays_by_sweeps ?k_stays_by_sweeps)) (L3.Fd.mk ?e_lesser_stock (L2.zaC ?l_lesser_stock ?c_lesser_stock ?k_lesser_stock)) (L3.Fd.mk ?e_offers_of (L2.zaC ?l_offers_of ?c_offers_of ?k_offers_of)) (L3.Fd.mk ?e_is_cover (L2.zaC ?l_is_cover ?c_is_cover ?k_is_cover)) (L3.Fd.mk ?e_need_cover (L2.zaC ?l_need_cover ?c_need_cover ?k_need_cover)) (L3.Fd.mk ?e_led_back (L2.zaC ?l_led_back ?c_led_back ?k_led_back)) (L3.Fd.mk ?e__law_said (L2.zaC ?l__law_said ?c__law_said ?k__law_said)) ?e_law ?l_law ?c_law ?k_law ?e_CoverError ?e_NoStock ?e_NoOffer ?e_NoThing ?e_NoCover ?e_NoNumber ?e_NotFull ?e_NoRow ?z_all ?z_bool ?z_divmod ?z_enumerate ?z_int ?z_isinstance ?z_len ?z_list ?z_max ?z_min ?z_range ?z_set ?z_sorted ?z_tuple ?x_tab
  (case e__law_cell => k_is)
  (case l__law_cell => k_is)
  (case c__law_cell => k_is)
  (case k__law_cell => k_is)
  (case e__law_mix => k_is)
  (case l__law_mix => k_is)
  (case c__law_mix => k_is)
  (case k__law_mix => k_is)
  (case e__law_box => k_is)
  (case l__law_box => k_is)
  (case c__law_box => k_is)
  (case k__law_box => k_is)
  (case e__law_take => k_is)
  (case l__law_take => k_is)
  (case c__law_take => k_is)
  (case k__law_take => k_is)
  (case e__law_stock => k_is)
  (case l__law_stock => k_is)
  (case c__law_stock => k_is)
  (case k__law_stock => k_is)
  (case e__law_full => k_is)
  (case l__law_full => k_is)
  (case c__law_full => k_is)
  (case k__law_full => k_is)
  (case e__law_alike_stock => k_is)
  (case l__law_alike_stock => k_is)
  (case c__law_alike_stock => k_is)
  (case k__law_alike_stock => k_is)
  (case e__law_rules => k_is)
  (case l__law_rules => k_is)
  (case c__law_rules => k_is)
  (case k__law_rules => k_is)
  (case e__law_have => k_is)
  (case l__law_have => k_is)
  (case c__law_have => k_is)
  (case k__law_have => k_is)
  (case e__law_thing_rules => k_is)
  (case l__law_thing_rules => k_is)
  (case c__law_thing_rules => k_is)
  (case k__law_thing_rules => k_is)
  (case e__law_ruled => k_is)
  (case l__law_ruled => k_is)
  (case c__law_ruled => k_is)
  (case k__law_ruled => k_is)
  (case e__law_left => k_is)
  (case l__law_left => k_is)
  (case c__law_left => k_is)
  (case k__law_left => k_is)
  (case e__law_swept => k_is)
  (case l__law_swept => k_is)
  (case c__law_swept => k_is)
  (case k__law_swept => k_is)
  (case e__law_odd => k_is)
  (case l__law_odd => k_is)
  (case c__law_odd => k_is)
  (case k__law_odd => k_is)
  (case e__law_bent => k_is)
  (case l__law_bent => k_is)
  (case c__law_bent => k_is)
  (case k__law_bent => k_is)
  (case e__law_whole => k_is)
  (case l__law_whole => k_is)
  (case c__law_whole => k_is)
  (case k__law_whole => k_is)
  (case e__law_is_lot => k_is)
  (case l__law_is_lot => k_is)
  (case c__law_is_lot => k_is)
  (case k__law_is_lot => k_is)
  (case e__law_is_cover => k_is)
  (case l__law_is_cover => k_is)
  (case c__law_is_cover => k_is)
  (case k__law_is_cover => k_is)
  (case e__law_kind => k_is)
  (case l__law_kind => k_is)
  (case c__law_kind => k_is)
  (case k__law_kind => k_is)
  (case e_is_whole => k_is)
  (case l_is_whole => k_is)
  (case c_is_whole => k_is)
  (case k_is_whole => k_is)
  (case e_is_rising => k_is)
  (case l_is_rising => k_is)
  (case c_is_rising => k_is)
  (case k_is_rising => k_is)
  (case e_is_lot => k_is)
  (case l_is_lot => k_is)
  (case c_is_lot => k_is)
  (case k_is_lot => k_is)
  (case e_need_lot => k_is)
  (case l_need_lot => k_is)
  (case c_need_lot => k_is)
  (case k_need_lot => k_is)
  (case e_not_ruled => k_is)
  (case l_not_ruled => k_is)
  (case c_not_ruled => k_is)
  (case k_not_ruled => k_is)
  (case e_things_together => k_is)
  (case l_things_together => k_is)
  (case c_things_together => k_is)
  (case k_things_together => k_is)
  (case e_have_all => k_is)
  (case l_have_all => k_is)
  (case c_have_all => k_is)
  (case k_have_all => k_is)
  (case e_is_full => k_is)
  (case l_is_full => k_is)
  (case c_is_full => k_is)
  (case k_is_full => k_is)
  (case e_need_full => k_is)
  (case l_need_full => k_is)
  (case c_need_full => k_is)
  (case k_need_full => k_is)
  (case e_rules => k_is)
  (case l_rules => k_is)
  (case c_rules => k_is)
  (case k_rules => k_is)
  (case e_ruled_by => k_is)
  (case l_ruled_by => k_is)
  (case c_ruled_by => k_is)
  (case k_ruled_by => k_is)
  (case e_are_among => k_is)
  (case l_are_among => k_is)
  (case c_are_among => k_is)
  (case k_are_among => k_is)
  (case e_as_good_offers => k_is)
  (case l_as_good_offers => k_is)
  (case c_as_good_offers => k_is)
  (case k_as_good_offers => k_is)
  (case e_table_of_offers => k_is)
  (case l_table_of_offers => k_is)
  (case c_table_of_offers => k_is)
  (case k_table_of_offers => k_is)
  (case e_ruled_offers => k_is)
  (case l_ruled_offers => k_is)
  (case c_ruled_offers => k_is)
  (case k_ruled_offers => k_is)
  (case e_offers_with => k_is)
  (case l_offers_with => k_is)
  (case c_offers_with => k_is)
  (case k_offers_with => k_is)
  (case e_as_scarce_things => k_is)
  (case l_as_scarce_things => k_is)
  (case c_as_scarce_things => k_is)
  (case k_as_scarce_things => k_is)
  (case e_table_of_things => k_is)
  (case l_table_of_things => k_is)
  (case c_table_of_things => k_is)
  (case k_table_of_things => k_is)
  (case e_ruled_things => k_is)
  (case l_ruled_things => k_is)
  (case c_ruled_things => k_is)
  (case k_ruled_things => k_is)
  (case e_narrowed => k_is)
  (case l_narrowed => k_is)
  (case c_narrowed => k_is)
  (case k_narrowed => k_is)
  (case e_rest_of => k_is)
  (case l_rest_of => k_is)
  (case c_rest_of => k_is)
  (case k_rest_of => k_is)
  (case e_behind_sweep => k_is)
  (case l_behind_sweep => k_is)
  (case c_behind_sweep => k_is)
  (case k_behind_sweep => k_is)
  (case e_stays_by_sweeps => k_is)
  (case l_stays_by_sweeps => k_is)
  (case c_stays_by_sweeps => k_is)
  (case k_stays_by_sweeps => k_is)
  (case e_lesser_stock => k_is)
  (case l_lesser_stock => k_is)
  (case c_lesser_stock => k_is)
  (case k_lesser_stock => k_is)
  (case e_offers_of => k_is)
  (case l_offers_of => k_is)
  (case c_offers_of => k_is)
  (case k_offers_of => k_is)
  (case e_is_cover => k_is)
  (case l_is_cover => k_is)
  (case c_is_cover => k_is)
  (case k_is_cover => k_is)
  (case e_need_cover => k_is)
  (case l_need_cover => k_is)
  (case c_need_cover => k_is)
  (case k_need_cover => k_is)
  (case e_led_back => k_is)
  (case l_led_back => k_is)
  (case c_led_back => k_is)
  (case k_led_back => k_is)
  (case e__law_said => k_is)
  (case l__law_said => k_is)
  (case c__law_said => k_is)
  (case k__law_said => k_is)
  (case e_law => k_is)
  (case l_law => k_is)
  (case c_law => k_is)
  (case k_law => k_is)
  (case e_CoverError => k_is)
  (case e_NoStock => k_is)
  (case e_NoOffer => k_is)
  (case e_NoThing => k_is)
  (case e_NoCover => k_is)
  (case e_NoNumber => k_is)
  (case e_NotFull => k_is)
  (case e_NoRow => k_is)
  (case z_all => k_is)
  (case z_bool => k_is)
  (case z_divmod => k_is)
  (case z_enumerate => k_is)
  (case z_int => k_is)
  (case z_isinstance => k_is)
  (case z_len => k_is)
  (case z_list => k_is)
  (case z_max => k_is)
  (case z_min => k_is)
  (case z_range => k_is)
  (case z_set => k_is)
  (case z_sorted => k_is)
  (case z_tuple => k_is)
  (case x_tab => kernel_rfl)
