import PyProof.Rows.All
import Wide.All
import OpenK.AllK
import Wide.FinOn
import PyProof.EqAt
import PyProof.EqKinds
import PyProof.TupleCall
import PyProof.StationsW
import PyProof.ExcArgs
import PyProof.Seq
import PyProof.TupleIter
import PyProof.RangeIter
import PyProof.WalkInts
import PyProof.SumWalkG
import PyProof.ListRange
import PyProof.Rows.Range3
import OpenK.KDescr
import PyProof.ExcAttrAll.ValueError
import PyProof.Draws
import PyProof.EnumFor
import PyProof.EnumMake
import PyProof.LayNew
import PyProof.Rows.EnumRows
import PyProof.MinMaxWalk
import Lean
import PySem.Challenge.RW_cheapcovers_k33_the_best_of_both
set_option Elab.async false
set_option linter.all false
set_option maxRecDepth 100000
set_option maxHeartbeats 8000000
set_option compiler.extract_closed false
set_option bootstrap.genMatcherCode false
set_option genSizeOfSpec false
section
open PySem PySem.Spec PyProof PyProof.Rows
abbrev qaa := @List.getElem?_append_right
abbrev qab := @Array.getElem?_eq_some_iff
abbrev qac := @List.getElem?_eq_some_iff
abbrev qad := @List.getElem?_append_left
abbrev qae := @List.drop_eq_getElem_cons
abbrev qaf := @List.getElem?_eq_getElem
abbrev qag := @Heap.get?_push_of_some
abbrev qah := @Heap.get?_update_other
abbrev qai := @List.getElem?_set_self
abbrev qak := @List.mem_append_right
abbrev qal := @Heap.get?_update_self
abbrev qan := @List.mem_cons_of_mem
abbrev qao := @List.getElem?_set_ne
abbrev qap := @Around.under_plainId
abbrev qar := @Heap.get?_push_size
abbrev qas := @Array.length_toList
abbrev qat := @List.filterMap_cons
abbrev qau := @List.mem_cons_self
abbrev qav := @List.length_append
abbrev qaw := @Nat.lt_of_lt_of_le
abbrev qax := @Bool.false_eq_true
abbrev qay := @List.pairwise_cons
abbrev qaA := @List.size_toArray
abbrev qaB := @Int.toNat_natCast
abbrev qaC := @wpAny_newObj_type
abbrev qaD := @decide_eq_true_eq
abbrev qaE := @List.length_cons
abbrev qaF := @List.not_mem_nil
abbrev qaG := @Bool.and_eq_true
abbrev qaH := @List.length_map
abbrev qaI := @List.length_set
abbrev qaJ := @List.length_nil
abbrev qaK := @List.mem_append
abbrev qaL := @Heap.size_push
abbrev qaM := @List.map_cons
abbrev qaN := @Nat.lt_irrefl
abbrev qaO := @wpAny_holding
abbrev qaP := @List.mem_cons
abbrev qaQ := @Heap.lt_size
abbrev qaR := @Nat.ne_of_lt
abbrev qaS := @Nat.le_trans
abbrev qaT := @List.map_map
abbrev qaU := @List.mem_map
abbrev qaV := @Nat.le_refl
abbrev qaW := @wpAny_bind
abbrev qaX := @wpAny_pure
abbrev qaZ := @wpAny_mono
abbrev qa0 := @False.elim
abbrev qa4 := @if_pos
abbrev qa5 := @if_neg
end
noncomputable def PySem.W.Fast.tw8819417138538575241:Nat:=0
noncomputable def PySem.W.Fast.tw4469946143330157413:Nat:=0
noncomputable def PySem.W.Fast.tw16010052334676909123:Nat:=0
noncomputable def PySem.W.Fast.tw5397328993265130086:Nat:=0
noncomputable def PySem.W.Fast.tw2034243062734072352:Nat:=0
noncomputable def PySem.W.Fast.tw10447154686536301357:Nat:=0
noncomputable def PySem.W.Fast.tw399174358152398170:Nat:=0
noncomputable def PySem.W.Fast.tw17525901324917111309:Nat:=0
noncomputable def PySem.W.Fast.tw15340672537616454389:Nat:=0
noncomputable def PySem.W.Fast.tw8189183722201611459:Nat:=0
noncomputable def PySem.W.Fast.tw16142301775305709369:Nat:=0
noncomputable def PySem.W.Fast.tw3476019581335268492:Nat:=0
noncomputable def PySem.W.Fast.tw18198495194576154576:Nat:=0
noncomputable def PySem.W.Fast.tw16533374294173432023:Nat:=0
noncomputable def PySem.W.Fast.tw13312770179610482328:Nat:=0
noncomputable def PySem.W.Fast.tw10926282178747827361:Nat:=0
namespace L3
open PySem
def zgE (h:Heap) (e:Addr) (cls head:Value):Prop:= ∃ ob vs,h.get? e=some ob/\ob.cls=cls/\ob.dict=none/\ob.data= .fields vs/\vs[2]? = some .none/\vs[1]? = some head
def zuI (h B:Heap) (e:Addr) (head fl:Value):Prop:= ∃ T ot ts,head= .ref T/\B.get? T=none/\T≠e/\h.get? T=some ot/\ot.data= .fields ts/\ts[3]? = some fl
structure Fly (B:Heap) (l:List Env) (e:Addr) (cls fl:Value) (h:Heap):Prop where
 stays:B.StaysIn h
 new:B.get? e=none
 frames:h.FunFrames B l
 exc: ∃ head,zgE h e cls head/\zuI h B e head fl
theorem zmo (o:Obj) (f):(o.mapFields f).dict=o.dict:=by
 obtain ⟨c,d,t,z⟩:=o
 cases t<;>rfl
section
variable {M:Model} {A:Around} {E:Value->Shared->Prop} {s:Shared} {B:Heap} {env:Env} {outer l:List Env} {L e:Addr} {cls head fl:Value}
theorem zhT {hd0:Value} {hadNext:Bool} {Q:Unit->Shared->Prop} (hfr:A.frames=some (env::outer)) (hl:s.heap.FunFrames B (env::outer)) (hf:env.frame=some L) (hx:zgE s.heap e cls head)
  (hkb:B.StaysIn s.heap) (hen:B.get? e=none) (q: ∀ h',Fly B (env::outer) e cls (rawInt L) h'->s.heap.UpToSlots h'->Q () {s with heap:=h'}):
  wpAny M A (do let a<-frameOf env;let pl<-entryPlaceOf L hadNext;let b<-EntryCells.newEntry hd0 a .none (rawInt L) .none pl;setField (.ref e) 1 b) Q E s:=by
 obtain ⟨ob,vs,h1,h2,h3,h4,h5,h6⟩:=hx
 have hsz:1<vs.size:=(qab.mp h6).1
 have nfr:e∉(env::outer).filterMap (·.frame):=fun z=>by
  obtain ⟨_,o,ho,hn⟩:=hl.mem z
  rw [h1] at ho
  cases ho
  exact hn vs h4
 refine qaW (wpAny_frameOf_fun hfr hl hf fun g sg=> ?_)
 refine qaW (wpAny_entryPlaceOf fun pl hpl=> ?_)
 unfold EntryCells.newEntry newFields
 refine qaW (qaC ?_ (hpl.sizeOk5 _ _ _ _ _))
 have e1:g.get? e=some ob:=(sg.2.1 e nfr).trans h1
 have kb:B.StaysIn g:=fun b o z=>(sg.2.1 b fun w=>by rw [(hl.mem w).1] at z;cases z).trans (hkb b o z)
 generalize hob:({cls:= .type "traceback",dict:=none,data:= .fields ([hd0,.ref L,.none,rawInt L,.none]++(if pl.isEmpty then List.replicate 6 Value.none else pl)).toArray}:Obj)=tb
 have e2:(g.push tb).get? e=some ob:=qag _ e1
 have ne:g.objs.size≠e:=Nat.ne_of_gt (qaQ e1)
 have d3:=Obj.data_mapFields h4 (·.setIfInBounds 1 (Value.ref g.objs.size))
 have e3:=qal (Obj.mapFields (·.setIfInBounds 1 (Value.ref g.objs.size))) e2 (Obj.isFreed_of_fields d3)
 have ft:tb.isFreed=false:=by rw [<- hob];rfl
 have t3:((g.push tb).update e (Obj.mapFields (·.setIfInBounds 1 (Value.ref g.objs.size)))).get? g.objs.size=some tb:=(qah _ _ (Ne.symm ne)).trans (qar g ft)
 have stay: ∀ b o,b≠e->g.get? b=some o->((g.push tb).update e (Obj.mapFields (·.setIfInBounds 1 (Value.ref g.objs.size)))).get? b=some o:=fun b o hb z=>by
  rw [qah _ _ (Ne.symm hb)]
  exact qag _ z
 have nrec: ∀ b o,s.heap.get? b=some o->(∀ ws,o.data≠ .fields ws)->b≠e:=fun b o z hn w=>by
  rw [w,h1] at z
  cases z
  exact hn vs h4
 have ht: ∃ ts,tb.data= .fields ts/\ts[3]? = some (rawInt L):=⟨_,by rw [<- hob],by rcases hpl with rfl | ⟨_,_,_,_,_,_,_,rfl⟩<;>simp⟩
 obtain ⟨ts,ht1,ht2⟩:=ht
 refine wpAny_setField e2 h4 hsz (q _ ⟨fun b o z=>stay b o (fun w=>by rw [w,hen] at z;cases z) (kb b o z),hen,hl.of_keeps fun b o z hn=> ?_,.ref g.objs.size,⟨_,_,e3,(Obj.cls_mapFields _ _).trans h2,(zmo _ _).trans h3,d3,?_,?_⟩,g.objs.size,tb,ts,rfl,kb.fresh,ne,t3,ht1,ht2⟩ fun b o z hn=> ?_)
 ·obtain ⟨sl,hs⟩:=sg.2.2 b o z
  exact ⟨_,stay b _ (nrec b o z hn) hs,rfl⟩
 ·rw [Array.getElem?_setIfInBounds_ne (by decide)]
  exact h5
 ·simp [hsz]
 ·obtain ⟨sl,hs⟩:=sg.2.2 b o z
  exact ⟨sl,stay b _ (nrec b o z hn) hs⟩
theorem ziS {Q:Unit->Shared->Prop} (hfr:A.frames=some (env::outer)) (hl:s.heap.FunFrames B (env::outer)) (hf:env.frame=some L) (hx:zgE s.heap e cls .none)
  (hkb:B.StaysIn s.heap) (hen:B.get? e=none) (q: ∀ h',Fly B (env::outer) e cls (rawInt L) h'->s.heap.UpToSlots h'->Q () {s with heap:=h'}):wpAny M A (noteFrame (.ref e) env) Q E s:=by
 obtain ⟨ob,vs,h1,h2,h3,h4,h5,h6⟩:=id hx
 unfold noteFrame
 simp only [hf]
 refine qaW (wpAny_field h1 h4 h6 ?_)
 rw [qa5 (by decide)]
 exact zhT hfr hl hf hx hkb hen q
theorem zkC {Q:Unit->Shared->Prop} (hfr:A.frames=some (env::outer)) (hf:env.frame=some L) (y:Fly B (env::outer) e cls .none s.heap)
  (q: ∀ h',Fly B (env::outer) e cls (rawInt L) h'->s.heap.UpToSlots h'->Q () {s with heap:=h'}):wpAny M A (noteFrame (.ref e) env) Q E s:=by
 obtain ⟨hkb,hen,hl,hd,⟨ob,vs,h1,h2,h3,h4,h5,h6⟩,T,ot,ts,rfl,t1,t2,t3,t4,t5⟩:=y
 unfold noteFrame
 simp only [hf]
 refine qaW (wpAny_field h1 h4 h6 ?_)
 rw [qa4 (show (Value.ref T != Value.none)=true by simp)]
 refine qaW (wpAny_field t3 t4 t5 ?_)
 rw [qa5 (show ¬(Value.none==rawInt L)=true by simp [rawInt])]
 refine qaW (wpAny_setField t3 t4 (qab.mp t5).1 ?_)
 have oth: ∀ b,b≠T->(s.heap.update T (Obj.mapFields (·.setIfInBounds 3 Value.none))).get? b=s.heap.get? b:=fun b hb=>qah _ _ (Ne.symm hb)
 have nrec: ∀ b o,s.heap.get? b=some o->(∀ ws,o.data≠ .fields ws)->b≠T:=fun b o z hn w=>by
  rw [w,t3] at z
  cases z
  exact hn ts t4
 refine zhT hfr (hl.of_keeps fun b o z hn=>⟨o,(oth b (nrec b o z hn)).trans z,rfl⟩) hf ⟨ob,vs,(oth e (Ne.symm t2)).trans h1,h2,h3,h4,h5,h6⟩ (fun b o z=>(oth b fun w=>by rw [w,t1] at z;cases z).trans (hkb b o z)) hen fun h' y u=> ?_
 exact q h' y fun b o z hn=>u b o ((oth b (nrec b o z hn)).trans z) hn
theorem zdV {Q:Unit->Shared->Prop} (y:Fly B l e cls fl s.heap) (q: ∀ h',Fly B l e cls .none h'->(∀ b o,s.heap.get? b=some o->(∀ ws,o.data≠ .fields ws)->h'.get? b=some o)->Q () {s with heap:=h'}):
  wpAny M A (setFlight (.ref e) none) Q E s:=by
 obtain ⟨hkb,hen,hl,hd,⟨ob,vs,h1,h2,h3,h4,h5,h6⟩,T,ot,ts,rfl,t1,t2,t3,t4,t5⟩:=y
 have hsz:=(qab.mp t5).1
 have oth: ∀ b,b≠T->(s.heap.update T (Obj.mapFields (·.setIfInBounds 3 ((none:Option Addr).elim Value.none fun f=>rawInt f)))).get? b=s.heap.get? b:=fun b hb=>qah _ _ (Ne.symm hb)
 have nrec: ∀ b o,s.heap.get? b=some o->(∀ ws,o.data≠ .fields ws)->b≠T:=fun b o z hn w=>by
  rw [w,t3] at z
  cases z
  exact hn ts t4
 unfold setFlight
 refine qaW (wpAny_field h1 h4 h6 ?_)
 rw [qa4 (show (Value.ref T != Value.none)=true by simp)]
 refine wpAny_setField t3 t4 hsz (q _ ⟨fun b o z=>(oth b fun w=>by rw [w,t1] at z;cases z).trans (hkb b o z),hen,hl.of_keeps fun b o z hn=>⟨o,(oth b (nrec b o z hn)).trans z,rfl⟩,
   .ref T,⟨ob,vs,(oth e (Ne.symm t2)).trans h1,h2,h3,h4,h5,h6⟩,T,_,_,rfl,t1,t2,qal _ t3 (Obj.isFreed_of_fields (Obj.data_mapFields t4 _)),Obj.data_mapFields t4 _,by simp [hsz]⟩ fun b o z hn=>(oth b (nrec b o z hn)).trans z)
theorem Fly.tail {h:Heap} (y:Fly B (env::outer) e cls fl h):Fly B outer e cls fl h:=⟨y.stays,y.new,y.frames.2.2,y.exc⟩
theorem zhw {Q:Unit->Shared->Prop} (hfr:A.frames=some (env::outer)) (hl:s.heap.FunFrames B (env::outer)) (hf:env.frame=some L) (hx:zgE s.heap e cls .none)
  (hkb:B.StaysIn s.heap) (hen:B.get? e=none) (q: ∀ h',Fly B outer e cls .none h'->s.heap.UpToSlots h'->Q () {s with heap:=h'}):wpAny M A (leaving env (.ref e)) Q E s:=by
 unfold leaving
 refine qaW (ziS hfr hl hf hx hkb hen fun h1 y1 u1=> ?_)
 refine zdV (s:={s with heap:=h1}) y1 fun h2 y2 k2=>q h2 y2.tail (u1.trans fun b o z hn=>⟨o.slots,k2 b o z hn⟩)
theorem zl2 {Q:Unit->Shared->Prop} (hfr:A.frames=some (env::outer)) (hf:env.frame=some L) (y:Fly B (env::outer) e cls .none s.heap)
  (q: ∀ h',Fly B outer e cls .none h'->s.heap.UpToSlots h'->Q () {s with heap:=h'}):wpAny M A (leaving env (.ref e)) Q E s:=by
 unfold leaving
 refine qaW (zkC hfr hf y fun h1 y1 u1=> ?_)
 refine zdV (s:={s with heap:=h1}) y1 fun h2 y2 k2=>q h2 y2.tail (u1.trans fun b o z hn=>⟨o.slots,k2 b o z hn⟩)
theorem zl9 {h h':Heap} {args:List Value} (x:Heap.MadeExcOf h h' e cls args):zgE h' e cls .none:=by
 obtain ⟨t,h1,_,_⟩:=x.there
 exact ⟨_,_,h1,rfl,rfl,rfl,rfl,rfl⟩
end
theorem zfB:entryFor table "proto.unchain"=some Builtin.«proto.unchain» := entryFor_of_tree (by kernel_rfl)
section
variable {prog:Program} {w:World} {A:Around} {E:Value->Shared->Prop} {s:Shared}
theorem zcw {α:Type} {a h:Addr} {o:Obj} {us:Array Value} {cls head:Value} {Q:α->Shared->Prop} (hh:A.handled=some (.ref h)) (hx:zgE s.heap h cls head) (ho:s.heap.get? a=some o) (hd:o.data= .fields us) (hz:2<us.size) (hne:h≠a)
  (q:E (.ref a) {s with heap:=s.heap.update a (Obj.mapFields (·.setIfInBounds 2 (.ref h)))}):wpAny (model prog w) A (raiseNew (.ref a):Sem α) Q E s:=by
 obtain ⟨ob,vs,h1,h2,h3,h4,h5,h6⟩:=hx
 unfold raiseNew
 refine qaW (wpAny_handled ?_)
 rw [hh]
 dsimp only
 rw [qa4 (show (Value.ref h != Value.ref a)=true by simp [hne])]
 refine qaW (qaO (wpAny_runValue (codeAny_builtin zfB ?_)))
 unfold Builtin.«proto.unchain»
 refine qaW (wpAny_field h1 h4 h5 ?_)
 rw [qa4 (show (Value.none==Value.none)=true from rfl)]
 refine qaW (qaX (qaX ?_))
 refine qaW ?_
 obtain ⟨c,d,dt,sl⟩:=o
 dsimp only at hd
 subst hd
 unfold updateField
 refine qaW (wpAny_load ho ?_)
 dsimp only
 rw [qa4 hz]
 exact wpAny_update ho (wpAny_throw q)
def zf9 (A:Around) (h:Heap):Prop:=A.handled=none\/ ∃ a cls head,A.handled=some (.ref a)/\zgE h a cls head
theorem zie {it l:Addr} {i:Nat} {items:Array Value} {Q:Option Value->Shared->Prop} (hh:zf9 A s.heap) (hit:s.heap.IsListIter it l i) (hl:s.heap.IsList l items) (hx:items[i]? = none)
  (k: ∀ h',Heap.ExtBut it s.heap h'->Q none {s with heap:=h'}):wpAny (model prog w) A (pyNext (.ref it)) Q E s:=by
 rcases hh with hh | ⟨ha,cls,head,hh,hX⟩
 ·exact wpAny_pyNext_list_end hh hit hl hx k
 obtain ⟨o,h1,h2,h3⟩:=id hit
 obtain ⟨ol,l1,_,nl,l2⟩:=hl
 unfold pyNext
 refine qaW (wpAny_attempt (wpAny_callSpecial?_slot (name:=Str.ofString "__next__") hit.typeIs slot_listiter_next (wpAny_call_entry slot_listiter_next hit.typeIs entry_listiter_next ?_ (args_listiter_next _))))
 show wpAny _ _ (field (.ref it) 0>>=_) _ _ s
 refine qaW (wpAny_field h1 h3 (x:= .ref l) rfl ?_)
 show wpAny _ _ (if (Value.ref l==Value.none)=true then _ else _) _ _ s
 rw [qa5 (show ¬(Value.ref l==Value.none)=true from nofun)]
 show wpAny _ _ (field (.ref it) 1>>=_) _ _ s
 refine qaW (wpAny_field h1 h3 (x:= .int i 0) rfl ?_)
 show wpAny _ _ (seqItems? (.ref l)>>=_) _ _ s
 refine qaW (wpAny_seqItems l1 l2 ?_)
 simp only [qaB,hx]
 refine qaW (wpAny_rule (qaW (wpAny_setField h1 h3 (by simp) ?_)))
 have nit:ha≠it:=fun z=>by
  subst z
  obtain ⟨ob,vs,x1,_,_,x4,x5,x6⟩:=hX
  rw [h1] at x1
  cases x1
  rw [h3] at x4
  cases x4
  simp at x5
 have hX1:zgE (s.heap.update it (Obj.mapFields (·.setIfInBounds 0 Value.none))) ha cls head:=by
  obtain ⟨ob,vs,x1,x2⟩:=hX
  exact ⟨ob,vs,(qah _ _ (Ne.symm nit)).trans x1,x2⟩
 show wpAny _ _ (newExc (.type "StopIteration") []>>=_) _ _ _
 refine qaW ?_
 simp only [newExc,newTuple]
 refine qaW (qaC ?_ (by size_fits))
 refine qaW (m:=firstArgMember _ _) (wpAny_of_eq (a:=Value.none) (by first | rfl | (simp only [firstArgMember];rfl)) ?_)
 refine qaC ?_ (by size_fits)
 obtain ⟨ob,vs,x1,x2⟩:=hX1
 have y1:=qag {cls:= .type "tuple",dict:=none,data:= .seq [].toArray} x1
 refine zcw (h:=ha) (cls:=cls) (head:=head) hh ⟨ob,vs,qag _ y1,x2⟩ (qar _ rfl) rfl (by simp;omega) (qaR (qaQ y1)) ?_
 refine qaW (wpAny_isInstance (T:="StopIteration") (b:=true) ⟨_,qal _ (qar _ rfl) rfl,rfl⟩ isSubtype_stop ?_)
 refine qaX (k _ fun b o hb z=> ?_)
 have z1:(s.heap.update it (Obj.mapFields (·.setIfInBounds 0 Value.none))).get? b=some o:=(qah _ _ (Ne.symm hb)).trans z
 have z2:=qag {cls:= .type "tuple",dict:=none,data:= .seq [].toArray} z1
 rw [qah _ _ (Nat.ne_of_gt (qaQ z2))]
 exact qag _ z2
theorem zkR {it l:Addr} {i:Nat} {items:Array Value} {Q:Option Value->Shared->Prop} (hh:zf9 A s.heap) (hit:s.heap.IsTupleIter it l i) (hl:s.heap.IsTuple l items) (hx:items[i]? = none)
  (k: ∀ h',Heap.ExtBut it s.heap h'->Q none {s with heap:=h'}):wpAny (model prog w) A (pyNext (.ref it)) Q E s:=by
 rcases hh with hh | ⟨ha,cls,head,hh,hX⟩
 ·exact wpAny_pyNext_tuple_end hh hit hl hx k
 obtain ⟨o,h1,h2,h3⟩:=id hit
 obtain ⟨ol,l1,_,nl,l2⟩:=hl
 unfold pyNext
 refine qaW (wpAny_attempt (wpAny_callSpecial?_slot (name:=Str.ofString "__next__") hit.typeIs F.slot_tuple_iterator_next (wpAny_call_entry F.slot_tuple_iterator_next hit.typeIs F.entry_tuple_iterator_next ?_ (F.args_tuple_iterator_next_1 _))))
 show wpAny _ _ (field (.ref it) 0>>=_) _ _ s
 refine qaW (wpAny_field h1 h3 (x:= .ref l) rfl ?_)
 show wpAny _ _ (if (Value.ref l==Value.none)=true then _ else _) _ _ s
 rw [qa5 (show ¬(Value.ref l==Value.none)=true from nofun)]
 show wpAny _ _ (field (.ref it) 1>>=_) _ _ s
 refine qaW (wpAny_field h1 h3 (x:= .int i 0) rfl ?_)
 show wpAny _ _ (seqItems? (.ref l)>>=_) _ _ s
 refine qaW (wpAny_seqItems l1 l2 ?_)
 simp only [qaB,hx]
 refine qaW (wpAny_rule (qaW (wpAny_setField h1 h3 (by simp) ?_)))
 have nit:ha≠it:=fun z=>by
  subst z
  obtain ⟨ob,vs,x1,_,_,x4,x5,x6⟩:=hX
  rw [h1] at x1
  cases x1
  rw [h3] at x4
  cases x4
  simp at x5
 have hX1:zgE (s.heap.update it (Obj.mapFields (·.setIfInBounds 0 Value.none))) ha cls head:=by
  obtain ⟨ob,vs,x1,x2⟩:=hX
  exact ⟨ob,vs,(qah _ _ (Ne.symm nit)).trans x1,x2⟩
 show wpAny _ _ (newExc (.type "StopIteration") []>>=_) _ _ _
 refine qaW ?_
 simp only [newExc,newTuple]
 refine qaW (qaC ?_ (by size_fits))
 refine qaW (m:=firstArgMember _ _) (wpAny_of_eq (a:=Value.none) (by first | rfl | (simp only [firstArgMember];rfl)) ?_)
 refine qaC ?_ (by size_fits)
 obtain ⟨ob,vs,x1,x2⟩:=hX1
 have y1:=qag {cls:= .type "tuple",dict:=none,data:= .seq [].toArray} x1
 refine zcw (h:=ha) (cls:=cls) (head:=head) hh ⟨ob,vs,qag _ y1,x2⟩ (qar _ rfl) rfl (by simp;omega) (qaR (qaQ y1)) ?_
 refine qaW (wpAny_isInstance (T:="StopIteration") (b:=true) ⟨_,qal _ (qar _ rfl) rfl,rfl⟩ isSubtype_stop ?_)
 refine qaX (k _ fun b o hb z=> ?_)
 have z1:(s.heap.update it (Obj.mapFields (·.setIfInBounds 0 Value.none))).get? b=some o:=(qah _ _ (Ne.symm hb)).trans z
 have z2:=qag {cls:= .type "tuple",dict:=none,data:= .seq [].toArray} z1
 rw [qah _ _ (Nat.ne_of_gt (qaQ z2))]
 exact qag _ z2
theorem zj0 {it:Addr} {x left step:Int} {Q:Option Value->Shared->Prop} (hh:zf9 A s.heap) (hit:IsRangeIter s.heap it x left step) (hleft:left<=0)
  (k: ∀ h',Heap.ExtBut it s.heap h'->Q none {s with heap:=h'}):wpAny (model prog w) A (pyNext (.ref it)) Q E s:=by
 rcases hh with hh | ⟨ha,cls,head,hh,hX⟩
 ·exact wpAny_pyNext_range_end hh hit hleft k
 have hT:s.TypeIs (.ref it) "range_iterator":=⟨_,hit,rfl⟩
 unfold pyNext
 refine qaW (wpAny_attempt (wpAny_callSpecial?_slot (name:=Str.ofString "__next__") hT F.slot_range_iterator_next (wpAny_call_entry F.slot_range_iterator_next hT F.entry_range_iterator_next ?_ (F.args_range_iterator_next_1 _))))
 show wpAny _ _ (field (.ref it) 0>>=_) _ _ s
 refine qaW (wpAny_field hit rfl (x:=rawInt x) rfl ?_)
 show wpAny _ _ (field (.ref it) 1>>=_) _ _ s
 refine qaW (wpAny_field hit rfl (x:=rawInt left) rfl ?_)
 show wpAny _ _ (field (.ref it) 2>>=_) _ _ s
 refine qaW (wpAny_field hit rfl (x:=rawInt step) rfl ?_)
 show wpAny _ _ (if left<=0 then _ else _) _ _ s
 rw [qa4 hleft]
 refine qaW (wpAny_rule (qaW ?_))
 show wpAny _ _ (newExc (.type "StopIteration") []>>=_) _ _ _
 refine qaW ?_
 simp only [newExc,newTuple]
 refine qaW (qaC ?_ (by size_fits))
 refine qaW (m:=firstArgMember _ _) (wpAny_of_eq (a:=Value.none) (by first | rfl | (simp only [firstArgMember];rfl)) ?_)
 refine qaC ?_ (by size_fits)
 obtain ⟨ob,vs,x1,x2⟩:=hX
 have y1:=qag {cls:= .type "tuple",dict:=none,data:= .seq [].toArray} x1
 refine zcw (h:=ha) (cls:=cls) (head:=head) hh ⟨ob,vs,qag _ y1,x2⟩ (qar _ rfl) rfl (by simp;omega) (qaR (qaQ y1)) ?_
 refine qaW (wpAny_isInstance (T:="StopIteration") (b:=true) ⟨_,qal _ (qar _ rfl) rfl,rfl⟩ isSubtype_stop ?_)
 refine qaX (k _ fun b o hb z=> ?_)
 have z2:=qag {cls:= .type "tuple",dict:=none,data:= .seq [].toArray} z
 rw [qah _ _ (Nat.ne_of_gt (qaQ z2))]
 exact qag _ z2
theorem zgE.keep {h h':Heap} {a:Addr} {cls head:Value} (x:zgE h a cls head) (k: ∀ o,h.get? a=some o->h'.get? a=some o):zgE h' a cls head:=by
 obtain ⟨ob,vs,x1,x2⟩:=x
 exact ⟨ob,vs,k _ x1,x2⟩
theorem ziJ {ha:Addr} {cls head:Value} (hh:A.handled=some (.ref ha)) (I ax:Addr) (hne:ax≠I) (hn2:ha≠I) (items:Array Value):
  Walks prog w A I [I,ax,ha] [I] items.size (fun i v=>items[i]? = some v) (fun i h=>h.IsListIter I ax i/\h.IsList ax items/\zgE h ha cls head) where
 sub:=fun b hb=>by simp at hb;simp [hb]
 frame:=fun _ _ _ st hk=>⟨st.1.at fun o e=>hk I (by simp) o e,st.2.1.at fun o e=>hk ax (by simp) o e,st.2.2.keep fun o e=>hk ha (by simp) o e⟩
 item:=fun i s Q E hi st hQ=>by
  refine wpAny_pyNext_list_item st.1 st.2.1 (x:=items[i]) (by simp [hi]) fun h' hit' hs'=> ?_
  exact hQ _ h' s.toks (by simp [hi]) ⟨hit',st.2.1.extBut hs'.extBut hne,st.2.2.keep fun o e=>hs'.extBut ha o hn2 e⟩ fun b o hb e=>hs'.extBut b o (fun h=>hb (by simp [h])) e
 done:=fun s Q E st hQ=>zie (.inr ⟨ha,cls,head,hh,st.2.2⟩) st.1 st.2.1 (by simp) fun h' he'=>hQ h' s.toks fun b o hb e=>he' b o (fun h=>hb (by simp [h])) e
 self:=fun _ _ _ _ st hQ=>wpAny_pyIter_listiter st.1 hQ
end
end L3
namespace L2
open PySem PySem.Spec PyProof.Rows
noncomputable abbrev Key:=Sum Int Str
noncomputable def ziA:Key->Value->Bool
 | .inl k,v=>Value.isInt k v
 | .inr x,v=>Value.isStrOf x v
noncomputable def zuP (w:World):Key->Int
 | .inl k=>hashInt k
 | .inr x=>hashStr w x
theorem za3: ∀ {k:Key} {v:Value},ziA k v=true->(∃ i t,k=Sum.inl i/\v=Value.int i t)\/(∃ x t,k=Sum.inr x/\v=Value.str x t)
 | .inl i,v,h=>by
  obtain ⟨t,e⟩:=Value.isInt_shape (k:=i) (v:=v) h
  exact .inl ⟨i,t,rfl,e⟩
 | .inr x,v,h=>by
  obtain ⟨t,e⟩:=Value.isStrOf_shape (x:=x) (v:=v) h
  exact .inr ⟨x,t,rfl,e⟩
theorem zk2 (i:Int) (t:Tok):ziA (.inl i) (.int i t)=true:=by simp [ziA,Value.isInt]
theorem zkm (x:Str) (t:Tok):ziA (.inr x) (.str x t)=true:=by simp [ziA,Value.isStrOf]
theorem zrY (a b:Int):decide ((Sum.inl a:Key)=Sum.inl b)=(a==b):=by
 by_cases e:a=b
 ·subst e;simp
 ·have h: ¬(Sum.inl a:Key)=Sum.inl b:=fun q=>e (Sum.inl.inj q)
  rw [decide_eq_false h]
  exact (beq_eq_false_iff_ne.mpr e).symm
theorem zrT (a b:Str):decide ((Sum.inr a:Key)=Sum.inr b)=decide (a=b):=by
 by_cases e:a=b
 ·subst e;simp
 ·have h: ¬(Sum.inr a:Key)=Sum.inr b:=fun q=>e (Sum.inr.inj q)
  rw [decide_eq_false h,decide_eq_false e]
theorem zrJ (a:Int) (b:Str):decide ((Sum.inl a:Key)=Sum.inr b)=false:=decide_eq_false (fun q=>nomatch q)
theorem zqe (a:Str) (b:Int):decide ((Sum.inr a:Key)=Sum.inl b)=false:=decide_eq_false (fun q=>nomatch q)
noncomputable def zdY (prog:Program) (w:World):PySem.KeyKind prog w Key where
 is:=ziA
 hash:=zuP w
 inj:=fun v a b ha hb=>by
  rcases za3 ha with ⟨i,t,rfl,rfl⟩ | ⟨x,t,rfl,rfl⟩
  ·rcases za3 hb with ⟨j,u,rfl,e⟩ | ⟨y,u,rfl,e⟩
   ·injection e with e1 _;rw [e1]
   ·exact nomatch e
  ·rcases za3 hb with ⟨j,u,rfl,e⟩ | ⟨y,u,rfl,e⟩
   ·exact nomatch e
   ·injection e with e1 _;rw [e1]
 byValue:=fun k v h=>by
  rcases za3 h with ⟨i,t,rfl,rfl⟩ | ⟨x,t,rfl,rfl⟩<;>rfl
 pyHash:=fun hv h=>by
  rcases za3 hv with ⟨i,t,rfl,rfl⟩ | ⟨x,t,rfl,rfl⟩
  ·exact wpAny_pyHash_int h
  ·exact wpAny_pyHash_str h
 eqBool:=fun hu hv h=>by
  rcases za3 hu with ⟨i,t,rfl,rfl⟩ | ⟨x,t,rfl,rfl⟩
  ·rcases za3 hv with ⟨j,u,rfl,rfl⟩ | ⟨y,u,rfl,rfl⟩
   ·rw [zrY] at h;exact wpAny_eqBool_int h
   ·rw [zrJ] at h;exact SeqAt.EqAt.int_str i t y u _ _ _ _ h
  ·rcases za3 hv with ⟨j,u,rfl,rfl⟩ | ⟨y,u,rfl,rfl⟩
   ·rw [zqe] at h;exact SeqAt.EqAt.str_int x t j u _ _ _ _ h
   ·rw [zrT] at h;exact wpAny_eqBool_str h
 «strs» := fun k x t v h=>by
  rcases za3 h with ⟨i,u,rfl,e⟩ | ⟨y,u,rfl,e⟩
  ·exact nomatch e
  ·injection e with e1 _
   subst e1
   cases v<;>rfl
theorem zhJ (prog:Program) (w:World) (i:Int) (t:Tok):(zdY prog w).is (.inl i) (.int i t)=true:=zk2 i t
theorem zhL (prog:Program) (w:World) (x:Str) (t:Tok):(zdY prog w).is (.inr x) (.str x t)=true:=zkm x t
inductive V where
 | non | bl (b:Bool) | int (i:Int) | str (x:Str) | byt (b:Array UInt8) | flt (b:UInt64) | ref (a:Addr) | ty (n:String)
 deriving DecidableEq
noncomputable def zby:V->Value->Prop
 | .non,u=>u=Value.none
 | .bl b,u=>u=Value.bool b
 | .int i,u=> ∃ t,u=Value.int i t
 | .str x,u=> ∃ t,u=Value.str x t
 | .byt b,u=> ∃ t,u=Value.bytes b t
 | .flt b,u=> ∃ t,u=Value.float b t
 | .ref a,u=>u=Value.ref a
 | .ty n,u=>u=Value.type n
noncomputable abbrev zbm:List V->List Value->Prop:=Paired zby
theorem zbm.length {xs:List V} {us:List Value} (r:zbm xs us):xs.length=us.length:=Paired.length r
theorem zbm.get: ∀ {xs:List V} {us:List Value} {i:Nat} {x:V},zbm xs us->xs[i]? = some x-> ∃ u,us[i]? = some u/\zby x u
 | _,_,_,_,.nil,e=>by simp at e
 | _,_,0,_,.cons r _,e=>by simp at e;subst e;exact ⟨_,rfl,r⟩
 | _,_,i+1,x,.cons _ t,e=>by
  obtain ⟨u,h1,h2⟩:=zbm.get (i:=i) (x:=x) t (by simpa using e)
  exact ⟨u,by simpa using h1,h2⟩
theorem zbm.set {x:V} {u:Value} (r:zby x u): ∀ {xs:List V} {us:List Value} (i:Nat),zbm xs us->zbm (xs.set i x) (us.set i u)
 | _,_,_,.nil=> .nil
 | _,_,0,.cons _ t=> .cons r t
 | _,_,i+1,.cons q t=> .cons q (zbm.set r i t)
theorem zbm.append: ∀ {xs ys:List V} {us ws:List Value},zbm xs us->zbm ys ws->zbm (xs++ys) (us++ws)
 | _,_,_,_,.nil,s=>s
 | _,_,_,_,.cons r t,s=> .cons r (zbm.append t s)
noncomputable def ztL:Option V->Option Value->Prop
 | some v,some u=>zby v u
 | none,none=>True
 | _,_=>False
noncomputable def KV {κ:Type}:List (κ×V)->List (κ×Value)->Prop:=Paired fun (p:κ×V) (q:κ×Value)=>p.1=q.1/\zby p.2 q.2
noncomputable def kV:Key->V
 | .inl i=> .int i
 | .inr x=> .str x
inductive HO where
 | lst (xs:List V)
 | tup (xs:List V)
 | dK (kvs:List (Key×V)) | dT (kvs:List (List Key×V))
 | set (S:Int->Bool) (n:Nat)
 | ins (C dx:Addr) (fs:List (Str×V))
 | own (x:Addr)
 | xd (fs:List (Str×V))
 | met (f x:Addr)
 | rng (lo hi:Int)
 | frz (o:Obj) (u:HO)
 | tbl (ps:Array Value)
 | ext (φ:Heap->Prop)
noncomputable abbrev Hp:=Addr->Option HO
noncomputable def upd (H:Hp) (a:Addr) (o:HO):Hp:=fun b=>if b=a then some o else H b
theorem zaH {H:Hp} {a:Addr} {o:HO}:upd H a o a=some o:=by unfold upd;rw [qa4 rfl]
theorem zax {H:Hp} {a b:Addr} {o:HO} (h:b≠a):upd H a o b=H b:=by unfold upd;rw [qa5 h]
theorem zaO {H:Hp} {a b:Addr} {o:HO} (h:H a=some o) (h':H b=none):a≠b:=by
 intro e;subst e;rw [h] at h';cases h'
def zi2 (h:Heap) (a:Addr) (items:Array Value):Prop:= ∃ o,h.get? a=some o/\o.cls= .type "tuple"/\ ∃ n,o.data= .seq items n/\o.dict=none
theorem zi2.is {h:Heap} {a:Addr} {items:Array Value} (x:zi2 h a items):IsTup h a items:=by
 obtain ⟨o,h1,h2,n,h3,_⟩:=x
 exact ⟨o,h1,h2,n,h3⟩
theorem zi2.new (h:Heap) (items:Array Value):zi2 (h.push {cls:= .type "tuple",data:= .seq items}) h.objs.size items:=⟨_,qar _ rfl,rfl,_,rfl,rfl⟩
section
variable (P:Program) (w:World)
noncomputable def zbz (H:Hp) (h:Heap) (a:Addr):HO->Prop
 | .lst xs=>xs.length<=sizeLine/\ ∃ (its:List Value) (n:Nat),zbm xs its/\h.get? a=some {cls:= .type "list",data:= .seq its.toArray n}
 | .tup xs=>xs.length<=sizeLine/\ ∃ its:List Value,zbm xs its/\zi2 h a its.toArray
 | .dK kvs=>kvs.length<=sizeLine/\(a==sysModules)=false/\ ∃ vs,KV kvs vs/\h.DictOf (zdY P w) a vs
 | .dT kvs=>kvs.length<=sizeLine/\(a==sysModules)=false/\ ∃ xs:List (List Key×Addr×Value),
   Paired (fun (p:List Key×V) (q:List Key×Addr×Value)=>p.1=q.1/\H q.2.1=some (.tup (p.1.map kV))/\zby p.2 q.2.2) kvs xs/\
   ∃ o es ep,h.get? a=some o/\o.ExactDict/\o.data= .dict es ep/\es.toList=xs.map (entryOfKey (tupleKind (zdY P w)))/\(xs.map (·.1)).Nodup
 | .set S n=>h.SetOf (intKind P w) a S n
 | .ins C dx fs=>H dx=some (.own a)/\fs.length<=1000/\dx≠a/\h.get? a=some (W.instObj C dx)/\
   ∃ mA,h.Ns1 dx mA/\(∀ f,ztL (fs.lookup f) (mA f))/\PySem.Within mA (fs.map (·.1))
 | .own _=> ∃ o,h.get? a=some o
 | .xd fs=> ∃ mA,h.Ns1 a mA/\ ∀ f,ztL (fs.lookup f) (mA f)
 | .rng lo hi=> ∃ t u v,h.get? a=some {cls:= .type "range",data:= .fields #[.int lo t,.int hi u,.int 1 v]}
 | .frz o u=>h.get? a=some o/\zbz H h a u
 | .tbl ps=>h.get? a=some {cls:= .none,data:= .fields ps}
 | .met f x=>h.get? a=some (W.methodObj (.ref f) (.ref x))
 | .ext φ=>φ h/\(∃ o,h.get? a=some o)/\ ∀ h1 h2:Heap,φ h1->(∀ o,h1.get? a=some o->h2.get? a=some o)->φ h2
def HOk (H:Hp) (h:Heap):Prop:= ∀ a o,H a=some o->zbz P w H h a o
end
section
variable {P:Program} {w:World} {H H':Hp} {h h':Heap} {a:Addr} {o:HO}
theorem zbz.lt (x:zbz P w H h a o):a<h.objs.size:=by
 cases o with
 | lst xs=>obtain ⟨_,_,_,_,e⟩:=x;exact qaQ e
 | tup xs=>obtain ⟨_,_,_,p⟩:=x;exact p.is.lt
 | dK kvs=>obtain ⟨_,_,_,_,o,_,_,e,_⟩:=x;exact qaQ e
 | dT kvs=>obtain ⟨_,_,_,_,o,_,_,e,_⟩:=x;exact qaQ e
 | set S n=>obtain ⟨o,_,_,_,e,_⟩:=x;exact qaQ e
 | ins C dx fs=>obtain ⟨_,_,_,e,_⟩:=x;exact qaQ e
 | own y=>obtain ⟨_,e⟩:=x;exact qaQ e
 | xd fs=>obtain ⟨_,⟨_,_,_,e,_⟩,_⟩:=x;exact qaQ e
 | rng lo hi=>obtain ⟨_,_,_,e⟩:=x;exact qaQ e
 | frz ob u=>obtain ⟨e,_⟩:=x;exact qaQ e
 | tbl ps=>exact qaQ (show h.get? a=some _ from x)
 | met f y=>exact qaQ (show h.get? a=some _ from x)
 | ext φ=>obtain ⟨_,⟨_,e⟩,_⟩:=x;exact qaQ e
theorem Paired.mapP {α β:Type} {F G:α->β->Prop}: ∀ {l₁:List α} {l₂:List β},Paired F l₁ l₂->(∀ a b,F a b->G a b)->Paired G l₁ l₂
 | _,_,.nil,_=> .nil
 | _,_,.cons r t,f=> .cons (f _ _ r) (Paired.mapP t f)
theorem zbz.stay (x:zbz P w H h a o) (k: ∀ b u,(b=a\/H b=some (.own a))->h.get? b=some u->h'.get? b=some u)
  (ho: ∀ b,H b=some (.own a)->H' b=some (.own a)) (ht: ∀ b xs,H b=some (.tup xs)->H' b=some (.tup xs)):zbz P w H' h' a o:=by
 induction o with
 | lst xs=>obtain ⟨z,its,n,r,e⟩:=x;exact ⟨z,its,n,r,k _ _ (.inl rfl) e⟩
 | tup xs=>obtain ⟨z,its,r,ob,e,c⟩:=x;exact ⟨z,its,r,ob,k _ _ (.inl rfl) e,c⟩
 | dK kvs=>obtain ⟨z,y,vs,r,ob,es,ep,e,c⟩:=x;exact ⟨z,y,vs,r,ob,es,ep,k _ _ (.inl rfl) e,c⟩
 | dT kvs=>
  obtain ⟨z,y,xs,r,ob,es,ep,e,c⟩:=x
  exact ⟨z,y,xs,Paired.mapP r fun p q z=>⟨z.1,ht _ _ z.2.1,z.2.2⟩,ob,es,ep,k _ _ (.inl rfl) e,c⟩
 | set S n=>obtain ⟨ob,es,ep,t,e,c⟩:=x;exact ⟨ob,es,ep,t,k _ _ (.inl rfl) e,c⟩
 | ins C dx fs=>
  obtain ⟨d,z,ne,e,mA,⟨od,es,ep,e2,c⟩,r⟩:=x
  exact ⟨ho _ d,z,ne,k _ _ (.inl rfl) e,mA,⟨od,es,ep,k _ _ (.inr d) e2,c⟩,r⟩
 | own y=>obtain ⟨ob,e⟩:=x;exact ⟨ob,k _ _ (.inl rfl) e⟩
 | xd fs=>obtain ⟨mA,⟨od,es,ep,e,c⟩,r⟩:=x;exact ⟨mA,⟨od,es,ep,k _ _ (.inl rfl) e,c⟩,r⟩
 | rng lo hi=>obtain ⟨t,u,v,e⟩:=x;exact ⟨t,u,v,k _ _ (.inl rfl) e⟩
 | frz ob u ih=>obtain ⟨e,q⟩:=x;exact ⟨k _ _ (.inl rfl) e,ih q⟩
 | tbl ps=>
  have e:h.get? a=some {cls:= .none,data:= .fields ps}:=x
  show h'.get? a=some {cls:= .none,data:= .fields ps}
  exact k a _ (.inl rfl) e
 | met f y=>
  have e:h.get? a=some (W.methodObj (.ref f) (.ref y)):=x
  show h'.get? a=some (W.methodObj (.ref f) (.ref y))
  exact k a _ (.inl rfl) e
 | ext φ=>obtain ⟨p,⟨o,e⟩,st⟩:=x;exact ⟨st _ _ p fun o q=>k _ _ (.inl rfl) q,⟨o,k _ _ (.inl rfl) e⟩,st⟩
theorem HOk.lt (x:HOk P w H h) (e:H a=some o):a<h.objs.size:=(x a o e).lt
theorem HOk.fresh (x:HOk P w H h) (e:h.objs.size<=a):H a=none:=by
 cases q:H a with
 | none=>rfl
 | some u=>exact absurd (qaw (x.lt q) e) (qaN _)
theorem HOk.kept (x:HOk P w H h) (k: ∀ b u,h.get? b=some u->h'.get? b=some u):HOk P w H h':=fun a o e=>
 (x a o e).stay (fun b u _ q=>k b u q) (fun _ q=>q) fun _ _ q=>q
theorem HOk.laid (x:HOk P w H h) (k: ∀ b u,h.get? b=some u->h'.get? b=some u) (hp:h.objs.size<=a) (new:zbz P w (upd H a o) h' a o):HOk P w (upd H a o) h':=fun b u e=>by
 have hn:=x.fresh hp
 by_cases hb:b=a
 ·subst hb;rw [zaH] at e;cases e;exact new
 ·rw [zax hb] at e
  exact (x b u e).stay (fun c v _ q=>k c v q) (fun c q=>by rw [zax (zaO q hn)];exact q) fun c xs q=>by rw [zax (zaO q hn)];exact q
end
def Rd (H:Hp) (a:Addr) (u:HO):Prop:=H a=some u\/ ∃ o,H a=some (.frz o u)
theorem Rd.ok {P:Program} {w:World} {H:Hp} {h:Heap} {a:Addr} {u:HO} (r:Rd H a u) (x:HOk P w H h):zbz P w H h a u:=by
 rcases r with r | ⟨o,r⟩
 ·exact x a u r
 ·obtain ⟨_,q⟩:=x a _ r
  exact q
noncomputable def Mut:Option HO->Prop
 | some (.lst _)=>True
 | some (.dK _)=>True
 | some (.dT _)=>True
 | some (.set _ _)=>True
 | some (.ins _ _ _)=>True
 | some (.ext _)=>True
 | _=>False
section
variable {P:Program} {w:World} {H:Hp} {h h':Heap} {x e:Addr} {o':HO}
theorem HOk.write (ok:HOk P w H h) (mu:Mut (H x)) (he:e=x\/H e=some (.own x)) (k: ∀ b u,b≠e->h.get? b=some u->h'.get? b=some u) (heo: ∃ u,h'.get? e=some u)
  (new:zbz P w (upd H x o') h' x o'):HOk P w (upd H x o') h':=fun b u q=>by
 have nown: ∀ c y,H c=some (.own y)->c≠x:=fun c y r z=>by subst z;rw [r] at mu;exact mu
 have ntup: ∀ c xs,H c=some (.tup xs)->c≠x:=fun c xs r z=>by subst z;rw [r] at mu;exact mu
 by_cases hb:b=x
 ·subst hb;rw [zaH] at q;cases q;exact new
 ·rw [zax hb] at q
  by_cases hbe:b=e
  ·have q':H b=some (.own x):=by
    rcases he with z | z
    ·exact absurd (hbe.trans z) hb
    ·rw [hbe];exact z
   rw [q] at q';cases q'
   obtain ⟨v,hv⟩:=heo
   exact ⟨v,by rw [hbe];exact hv⟩
  ·refine (ok b u q).stay (fun c v hc r=>k c v ?_ r) (fun c r=>by rw [zax (nown c b r)];exact r) fun c xs r=>by rw [zax (ntup c xs r)];exact r
   rcases hc with rfl | hc
   ·exact hbe
   ·rintro rfl
    rcases he with z | z
    ·exact nown c b hc z
    ·rw [hc] at z;cases z;exact hb rfl
end
structure Un (fs ex:List Addr) (H H':Hp) (h h':Heap):Prop where
 keep: ∀ b o,h.get? b=some o->H b=none->b∉fs->b∉ex->h'.get? b=some o
 slot: ∀ b o,h.get? b=some o->H b=none->b∈fs->b∉ex-> ∃ sl,h'.get? b=some {o with slots:=sl}
 free: ∀ b o,h.get? b=some o->H b=none->b∉ex->H' b=none
 there: ∀ b o,h.get? b=some o->b∉ex-> ∃ o',h'.get? b=some o'
 tups: ∀ b xs,H b=some (.tup xs)->H' b=some (.tup xs)
 frzs: ∀ b o u,H b=some (.frz o u)->H' b=some (.frz o u)
 tbls: ∀ b ps,H b=some (.tbl ps)-> ∃ more,H' b=some (.tbl (ps++more))
section
variable {fs fs' ex ex':List Addr} {H H1 H2:Hp} {h h1 h2 h':Heap} {a x e:Addr} {o:HO}
theorem Un.any (u:Un fs ex H H1 h h1) {b:Addr} {ob:Obj} (q:h.get? b=some ob) (n:H b=none) (hx:b∉ex): ∃ sl,h1.get? b=some {ob with slots:=sl}:=by
 by_cases hb:b∈fs
 ·exact u.slot b ob q n hb hx
 ·exact ⟨ob.slots,u.keep b ob q n hb hx⟩
theorem Un.trans (a:Un fs ex H H1 h h1) (b:Un fs ex H1 H2 h1 h2):Un fs ex H H2 h h2 where
 keep:=fun c ob q n hc hx=>b.keep c ob (a.keep c ob q n hc hx) (a.free c ob q n hx) hc hx
 slot:=fun c ob q n hc hx=>by
  obtain ⟨sl,e1⟩:=a.slot c ob q n hc hx
  obtain ⟨sl',e2⟩:=b.slot c _ e1 (a.free c ob q n hx) hc hx
  exact ⟨sl',e2⟩
 free:=fun c ob q n hx=>by
  obtain ⟨o',e1⟩:=a.there c ob q hx
  exact b.free c o' e1 (a.free c ob q n hx) hx
 there:=fun c ob q hx=>by
  obtain ⟨o',e1⟩:=a.there c ob q hx
  exact b.there c o' e1 hx
 tups:=fun c xs q=>b.tups c xs (a.tups c xs q)
 frzs:=fun c ob xs q=>b.frzs c ob xs (a.frzs c ob xs q)
 tbls:=fun c ps q=>by
  obtain ⟨m1,e1⟩:=a.tbls c ps q
  obtain ⟨m2,e2⟩:=b.tbls c _ e1
  exact ⟨m1++m2,by rw [e2,Array.append_assoc]⟩
theorem Un.kept (k: ∀ b u,h.get? b=some u->h'.get? b=some u):Un fs ex H H h h':=
 ⟨fun b ob q _ _ _=>k b ob q,fun b ob q _ _ _=>⟨ob.slots,k b ob q⟩,fun _ _ _ n _=>n,fun b ob q _=>⟨ob,k b ob q⟩,fun _ _ q=>q,fun _ _ _ q=>q,fun _ ps q=>⟨#[],by rw [q];simp⟩⟩
theorem Un.refl:Un fs ex H H h h:=Un.kept fun _ _ q=>q
theorem Un.laid (k: ∀ b u,h.get? b=some u->h'.get? b=some u) (hp:h.objs.size<=a) (hn:H a=none):Un fs ex H (upd H a o) h h' where
 keep:=fun b u q _ _ _=>k b u q
 slot:=fun b u q _ _ _=>⟨u.slots,k b u q⟩
 free:=fun b u q n _=>by rw [zax (qaR (qaw (qaQ q) hp))];exact n
 there:=fun b u q _=>⟨u,k b u q⟩
 tups:=fun b xs q=>by rw [zax (zaO q hn)];exact q
 frzs:=fun b u xs q=>by rw [zax (zaO q hn)];exact q
 tbls:=fun b ps q=>⟨#[],by rw [zax (zaO q hn),q];simp⟩
theorem Un.write (mu:Mut (H x)) (he:e=x\/H e=some (.own x)) (k: ∀ b u,b≠e->h.get? b=some u->h'.get? b=some u) (heo: ∃ u,h'.get? e=some u):Un fs ex H (upd H x o) h h':=by
 have hx: ∀ b,H b=none->b≠x:=fun b n z=>by subst z;rw [n] at mu;exact mu
 have hb: ∀ b,H b=none->b≠e:=fun b n z=>by
  subst z
  rcases he with r | r
  ·exact hx b n r
  ·rw [n] at r;cases r
 have hm: ∀ b u,H b=some u-> ¬Mut (some u)->b≠x:=fun b u q nm z=>by subst z;rw [q] at mu;exact nm mu
 refine ⟨fun b u q n _ _=>k b u (hb b n) q,fun b u q n _ _=>⟨u.slots,k b u (hb b n) q⟩,fun b u q n _=>by rw [zax (hx b n)];exact n,fun b u q _=> ?_,
   fun b xs q=>by rw [zax (hm b _ q fun z=>z)];exact q,fun b u xs q=>by rw [zax (hm b _ q fun z=>z)];exact q,fun b ps q=>⟨#[],by rw [zax (hm b _ q fun z=>z),q];simp⟩⟩
 by_cases hbe:b=e
 ·subst hbe;exact heo
 ·exact ⟨u,k b u hbe q⟩
end
noncomputable def trk (h:Heap) (H:Hp):List Addr:=(List.range h.objs.size).filter fun a=>(H a).isSome
noncomputable def zlV (h:Heap) (H:Hp):Heap:=W.hideAll h (trk h H)
theorem zkb (h:Heap) (H:Hp):(zlV h H).objs.size=h.objs.size:=W.hideAll_size _ _
theorem zmd {h:Heap} {H:Hp} {b:Addr} {o:Obj} (e:h.get? b=some o) (n:H b=none):(zlV h H).get? b=some o:=
 W.hideAll_get _ e fun hm=>by
  have q:(H b).isSome=true:=(List.mem_filter.mp hm).2
  rw [n] at q;simp at q
theorem zoW {h:Heap} {H:Hp} {b:Addr} {o:Obj} (e:(zlV h H).get? b=some o):h.get? b=some o/\H b=none:=by
 have e':h.get? b=some o:=W.of_hideAll (trk h H) e
 refine ⟨e',?_⟩
 cases q:H b with
 | none=>rfl
 | some x=>
  have hm:b∈trk h H:=List.mem_filter.mpr ⟨List.mem_range.mpr (qaQ e'),by simp [q]⟩
  have z:(zlV h H).get? b=none:=W.hideAll_none (trk h H) hm
  rw [z] at e;cases e
noncomputable def zpo (g h:Heap) (L:Addr):List (Addr×Obj):=(List.range h.objs.size).filterMap fun a=>if a=L\/(g.get? a).isSome=true then none else (h.get? a).map fun o=>(a,o)
noncomputable def rest (g h:Heap) (L d:Addr):List (Addr×Obj):=(zpo g h L).filter fun p=>decide (p.1≠d)
structure Mod (K:W.Frag) (mg:Str->Option Value) (base:Heap):Prop where
 kin:K.In base
 glob:base.Ns mainGlobals mg
 blt: ∃ mb,base.Ns builtinsNs mb/\ ∀ x:Str,x≠"__name__"->mb x=bootBuiltins x
 nolimit:base.NoLimit
structure Cx where
 prog:Program
 w:World
 K:W.Frag
 mg:Str->Option Value
 base:Heap
 A:Around
 N:List Str
 s₀:Shared
 H₀:Hp
 env:Env
 outer:List Env
 stack:List Env
 ex:List Addr
 fn:Str->Bool
 calm:Bool
 pn:List (Addr×Obj)
 xe:Value->Shared->Prop
noncomputable def frs (l:List Env):List Addr:=l.filterMap (·.frame)
noncomputable abbrev Cx.fs (X:Cx):List Addr:=frs X.outer
def Vis (sc:Scope) (x:Str):Prop:=sc.names.lookup x=some .local\/sc.names.lookup x=some .cell\/sc.names.lookup x=some .free
def Loc (sc:Scope) (x:Str):Prop:=sc.names.lookup x=some .local\/sc.names.lookup x=some .cell
def zuS (env:Env) (h:Heap) (m:Str->Option Value) (x:Str) (u:Value):Prop:=
 (env.kindOf x=some .local/\m x=some u)\/((env.kindOf x=some .cell\/env.kindOf x=some .free)/\ ∃ c,env.cells.lookup x=some c/\h.IsCell c (some u))
def zgk (A:Around) (H:Hp):Prop:=A.handled=none\/ ∃ a o cls head vs,A.handled=some (.ref a)/\H a=some (.frz o (.own 0))/\o.cls=cls/\o.dict=none/\o.data= .fields vs/\vs[2]? = some .none/\vs[1]? = some head
structure Cx.Ok (X:Cx):Prop where
 mod:Mod X.K X.mg X.base
 kind:X.env.scope.kind= .function
 glob:X.env.globals=mainGlobals
 blt:X.env.builtins=builtinsNs
 above:X.s₀.heap.objs.size<=X.env.locals
 inj: ∀ x y c,X.env.cells.lookup x=some c->X.env.cells.lookup y=some c->x=y
 has: ∀ x,(X.env.kindOf x=some .cell\/X.env.kindOf x=some .free)-> ∃ c,X.env.cells.lookup x=some c
 cab: ∀ x c,X.fn x=true->X.env.cells.lookup x=some c->X.s₀.heap.objs.size<=c
 hd:X.calm=true->X.A.handled=none
 hx:zgk X.A X.H₀
 frames:X.A.frames=some X.stack
 stk:X.stack=X.outer\/(X.stack=X.env::X.outer/\X.env.frame=some X.env.locals)
 exf: ∀ b∈X.ex,b≠X.env.locals/\ ∀ x c,X.env.cells.lookup x=some c->c≠b
 bs: ∀ b o,X.base.get? b=some o->X.s₀.heap.get? b=some o/\X.H₀ b=none
 bsz:X.base.objs.size<=X.s₀.heap.objs.size
 noex: ∀ b o,X.base.get? b=some o->b∉X.ex
 exfs: ∀ b∈X.ex,b∉X.fs
 funs:X.s₀.heap.FunFrames X.base X.outer
 frf: ∀ b∈X.fs,X.H₀ b=none
structure Inv (X:Cx) (pins:List (Addr×Obj)) (σ:List (Option V)) (H:Hp) (s:Shared):Prop where
 ok:X.Ok
 os:s.os=X.s₀.os
 bare:AllBare s.gens
 base:Un X.fs X.ex X.H₀ H X.s₀.heap s.heap
 loc: ∃ m,s.heap.Ns X.env.locals m/\ ∀ (i:Nat) (x:Str) (v:V),X.N[i]? = some x->σ[i]? = some (some v)->Vis X.env.scope x-> ∃ u,zby v u/\zuS X.env s.heap m x u
 cell: ∀ x c,X.env.cells.lookup x=some c-> ∃ v,s.heap.IsCell c v
 free:H X.env.locals=none
 freeC: ∀ x c,X.env.cells.lookup x=some c->H c=none
 pin: ∀ p∈X.pn++pins,s.heap.get? p.1=some p.2/\H p.1=none/\p.1≠X.env.locals/\p.1∉X.fs/\ ∀ v,p.2.data≠ .cell v
 hok:HOk X.prog X.w H s.heap
 len:σ.length=X.N.length
section
variable {X:Cx} {pins:List (Addr×Obj)} {σ:List (Option V)} {H H':Hp} {s:Shared} {h':Heap}
theorem Cx.Ok.nofr (ok:X.Ok) {b:Addr} {o:Obj} (e:X.base.get? b=some o):b∉X.fs:=fun hb=>by
 have:=(ok.funs.mem hb).1
 rw [e] at this;cases this
theorem Inv.bs (I:Inv X pins σ H s): ∀ b o,X.base.get? b=some o->s.heap.get? b=some o/\H b=none:=fun b o e=>
 ⟨I.base.keep b o (I.ok.bs b o e).1 (I.ok.bs b o e).2 (I.ok.nofr e) (I.ok.noex b o e),I.base.free b o (I.ok.bs b o e).1 (I.ok.bs b o e).2 (I.ok.noex b o e)⟩
theorem Inv.bk (I:Inv X pins σ H s): ∀ b o,X.base.get? b=some o->s.heap.get? b=some o:=fun b o e=>(I.bs b o e).1
theorem Inv.mod (I:Inv X pins σ H s):Mod X.K X.mg X.base:=I.ok.mod
theorem Inv.kIn (I:Inv X pins σ H s):X.K.In s.heap:=I.ok.mod.kin.keeps I.bk
theorem Inv.lt (I:Inv X pins σ H s):X.env.locals<s.heap.objs.size:=let ⟨_,hn,_⟩:=I.loc;hn.lt
theorem Inv.sz (I:Inv X pins σ H s):X.s₀.heap.objs.size<=s.heap.objs.size:=qaS I.ok.above (Nat.le_of_lt I.lt)
theorem Inv.nofs (I:Inv X pins σ H s) {a:Addr} (h:s.heap.objs.size<=a):a∉X.fs:=fun hb=>by
 obtain ⟨_,o,ho,_⟩:=I.ok.funs.mem hb
 exact absurd (qaw (qaQ ho) (qaS I.sz h)) (qaN _)
theorem Inv.cne (I:Inv X pins σ H s): ∀ x c,X.env.cells.lookup x=some c->c≠X.env.locals:=fun x c e z=>by
 obtain ⟨v,o,ho,hd⟩:=I.cell x c e
 obtain ⟨m,⟨o',es,ep,ho',hd',_⟩,_⟩:=I.loc
 rw [z,ho'] at ho;cases ho;rw [hd'] at hd;cases hd
theorem Inv.funs (I:Inv X pins σ H s):s.heap.FunFrames X.base X.outer:=by
 have all: ∀ (l:List Env),(∀ b∈frs l,b∈X.fs)->X.s₀.heap.FunFrames X.base l->s.heap.FunFrames X.base l:=by
  intro l
  induction l with
  | nil=>intro _ _;trivial
  | cons env r ih=>
   intro hs hl
   obtain ⟨hk,⟨L,o,hf,hn,ho,hd⟩,hr⟩:=hl
   have hL:L∈X.fs:=hs L (by unfold frs;rw [qat,hf];exact qau)
   obtain ⟨sl,e⟩:=I.base.slot L o ho (I.ok.frf L hL) hL fun z=>I.ok.exfs L z hL
   exact ⟨hk,⟨L,_,hf,hn,e,hd⟩,ih (fun b hb=>hs b (by unfold frs;rw [qat,hf];exact qan _ hb)) hr⟩
 exact all X.outer (fun _ hb=>hb) I.ok.funs
theorem Inv.stack (I:Inv X pins σ H s):s.heap.FunFrames X.base X.stack:=by
 rcases I.ok.stk with e | ⟨e,hf⟩
 ·rw [e];exact I.funs
 ·rw [e]
  obtain ⟨m,hn,_⟩:=I.loc
  refine .cons (by rw [I.ok.kind];decide) hf hn ?_ I.funs
  exact Heap.get?_none_of_le (qaS I.ok.bsz I.ok.above)
theorem Inv.stkSub (I:Inv X pins σ H s): ∀ b∈frs X.stack,b∈X.env.locals::X.fs:=fun b hb=>by
 rcases I.ok.stk with e | ⟨e,hf⟩
 ·rw [e] at hb;exact qan _ hb
 ·rw [e] at hb
  unfold frs at hb
  rw [qat,hf] at hb
  exact hb
theorem Inv.stkFree (I:Inv X pins σ H s): ∀ b∈frs X.stack,H b=none:=fun b hb=>by
 rcases qaP.mp (I.stkSub b hb) with e | hb
 ·rw [e];exact I.free
 ·obtain ⟨_,o,ho,_⟩:=I.ok.funs.mem hb
  exact I.base.free b o ho (I.ok.frf b hb) fun z=>I.ok.exfs b z hb
theorem Inv.step {g':Array GenState} {t':Nat} {d':Drawn} {ch:List Addr} (I:Inv X pins σ H s)
  (hch: ∀ b∈ch,(b∈X.ex\/X.s₀.heap.objs.size<=b)/\b≠X.env.locals/\(∀ x c,X.env.cells.lookup x=some c->c≠b)/\ ∀ p∈X.pn++pins,p.1≠b)
  (keep: ∀ b o,b≠X.env.locals->b∉X.fs->b∉ch->s.heap.get? b=some o->H b=none->h'.get? b=some o)
  (slot: ∀ b o,b≠X.env.locals->b∈X.fs->b∉ch->s.heap.get? b=some o->H b=none-> ∃ sl,h'.get? b=some {o with slots:=sl}) (free: ∀ b o,b∉ch->s.heap.get? b=some o->H b=none->H' b=none)
  (there: ∀ b o,b∉ch->s.heap.get? b=some o-> ∃ o',h'.get? b=some o')
  (tups: ∀ b xs,H b=some (.tup xs)->H' b=some (.tup xs)) (frzs: ∀ b o u,H b=some (.frz o u)->H' b=some (.frz o u)) (tbls: ∀ b ps,H b=some (.tbl ps)-> ∃ more,H' b=some (.tbl (ps++more)))
  (ns: ∀ m,s.heap.Ns X.env.locals m->h'.Ns X.env.locals m) (hok:HOk X.prog X.w H' h') (hg:AllBare g'):
  Inv X pins σ H' {s with heap:=h',gens:=g',drawn:=d',toks:=t'}:=by
 have neL: ∀ b o,X.s₀.heap.get? b=some o->b≠X.env.locals:=fun b o e=>qaR (qaw (qaQ e) I.ok.above)
 have neC: ∀ b o,X.s₀.heap.get? b=some o->b∉X.ex->b∉ch:=fun b o e hx hb=>by
  rcases (hch b hb).1 with z | z
  ·exact hx z
  ·exact absurd (qaw (qaQ e) z) (qaN _)
 have cellK: ∀ x c,X.env.cells.lookup x=some c-> ∀ v,s.heap.IsCell c v->h'.IsCell c v:=fun x c e v ⟨o,ho,hd⟩=>by
  have nch:c∉ch:=fun z=>(hch c z).2.2.1 x c e rfl
  by_cases hc:c∈X.fs
  ·obtain ⟨sl,q⟩:=slot c o (I.cne x c e) hc nch ho (I.freeC x c e)
   exact ⟨_,q,hd⟩
  ·exact ⟨o,keep c o (I.cne x c e) hc nch ho (I.freeC x c e),hd⟩
 refine ⟨I.ok,I.os,hg,⟨fun b o e n hb hx=> ?_,fun b o e n hb hx=> ?_,fun b o e n hx=> ?_,fun b o e hx=> ?_,fun b xs e=>tups b xs (I.base.tups b xs e),fun b o xs e=>frzs b o xs (I.base.frzs b o xs e),fun b ps e=> ?_⟩,?_,fun x c e=> ?_,?_,fun x c e=> ?_,fun p hp=> ?_,hok,I.len⟩
 ·exact keep b o (neL b o e) hb (neC b o e hx) (I.base.keep b o e n hb hx) (I.base.free b o e n hx)
 ·obtain ⟨sl,e1⟩:=I.base.slot b o e n hb hx
  obtain ⟨sl',e2⟩:=slot b _ (neL b o e) hb (neC b o e hx) e1 (I.base.free b o e n hx)
  exact ⟨sl',e2⟩
 ·obtain ⟨o',e1⟩:=I.base.there b o e hx
  exact free b o' (neC b o e hx) e1 (I.base.free b o e n hx)
 ·obtain ⟨o',e1⟩:=I.base.there b o e hx
  exact there b o' (neC b o e hx) e1
 ·obtain ⟨m1,e1⟩:=I.base.tbls b ps e
  obtain ⟨m2,e2⟩:=tbls b _ e1
  exact ⟨m1++m2,by rw [e2,Array.append_assoc]⟩
 ·obtain ⟨m,hn,hl⟩:=I.loc
  refine ⟨m,ns m hn,fun i x v e1 e2 e3=> ?_⟩
  obtain ⟨u,r,l⟩:=hl i x v e1 e2 e3
  refine ⟨u,r,?_⟩
  rcases l with l | ⟨k,c,e,z⟩
  ·exact .inl l
  ·exact .inr ⟨k,c,e,cellK x c e _ z⟩
 ·obtain ⟨v,z⟩:=I.cell x c e
  exact ⟨v,cellK x c e v z⟩
 ·obtain ⟨m,⟨o,_,_,ho,_⟩,_⟩:=I.loc
  exact free _ o (fun z=>(hch _ z).2.1 rfl) ho I.free
 ·obtain ⟨v,o,ho,hd⟩:=I.cell x c e
  exact free c o (fun z=>(hch c z).2.2.1 x c e rfl) ho (I.freeC x c e)
 ·obtain ⟨e,n,ne,nf,d⟩:=I.pin p hp
  have nch:p.1∉ch:=fun z=>(hch p.1 z).2.2.2 p hp rfl
  exact ⟨keep p.1 p.2 ne nf nch e n,free p.1 p.2 nch e n,ne,nf,d⟩
theorem Inv.un {t':Nat} (I:Inv X pins σ H s) (u:Un X.fs [] H H' s.heap h') (hok:HOk X.prog X.w H' h'):Inv X pins σ H' {s with heap:=h',toks:=t'}:=by
 obtain ⟨m,⟨o,es,ep,ho,r⟩,_⟩:=id I.loc
 obtain ⟨sl,hL⟩:=u.any ho I.free (by simp)
 exact I.step (g':=s.gens) (d':=s.drawn) (ch:=[]) (fun _ z=>nomatch z) (fun b o _ hb _ e n=>u.keep b o e n hb (by simp)) (fun b o _ hb _ e n=>u.slot b o e n hb (by simp)) (fun b o _ e n=>u.free b o e n (by simp)) (fun b o _ e=>u.there b o e (by simp)) u.tups u.frzs u.tbls (fun m' hm=>by
   obtain ⟨o',es',ep',ho',r'⟩:=hm
   rw [ho] at ho';cases ho'
   exact ⟨_,es',ep',hL,r'⟩) hok I.bare
theorem Inv.call {g':Array GenState} {t':Nat} {d':Drawn} {ch:List Addr} (I:Inv X pins σ H s) (u:Un (frs X.stack) ch H H' s.heap h') (hok:HOk X.prog X.w H' h') (hg:AllBare g')
  (hch: ∀ b∈ch,(b∈X.ex\/X.s₀.heap.objs.size<=b)/\b≠X.env.locals/\(∀ x c,X.env.cells.lookup x=some c->c≠b)/\ ∀ p∈X.pn++pins,p.1≠b):
  Inv X pins σ H' {s with heap:=h',gens:=g',drawn:=d',toks:=t'}:=by
 obtain ⟨m,⟨o,es,ep,ho,r⟩,_⟩:=id I.loc
 obtain ⟨sl,hL⟩:=u.any ho I.free fun z=>(hch _ z).2.1 rfl
 exact I.step (ch:=ch) hch (fun b o hL hb hc e n=>u.keep b o e n (fun z=>(qaP.mp (I.stkSub b z)).elim hL hb) hc) (fun b o _ _ hc e n=>u.any e n hc) (fun b o hc e n=>u.free b o e n hc) (fun b o hc e=>u.there b o e hc) u.tups u.frzs u.tbls (fun m' hm=>by
   obtain ⟨o',es',ep',ho',r'⟩:=hm
   rw [ho] at ho';cases ho'
   exact ⟨_,es',ep',hL,r'⟩) hok hg
theorem Inv.turned {t':Nat} {it:Addr} (I:Inv X pins σ H s) (k: ∀ b o,b≠it->s.heap.get? b=some o->h'.get? b=some o) (hn:H it=none) (hL:it≠X.env.locals)
  (h1:it∈X.ex\/X.s₀.heap.objs.size<=it) (h2: ∀ x c,X.env.cells.lookup x=some c->c≠it) (h3: ∀ p∈X.pn++pins,p.1≠it):Inv X pins σ H {s with heap:=h',toks:=t'}:=by
 have nit: ∀ b u,H b=some u->b≠it:=fun b u e z=>by rw [z,hn] at e;cases e
 refine I.step (g':=s.gens) (d':=s.drawn) (ch:=[it]) (fun b hb=> ?_) (fun b o _ _ hc e _=>k b o (fun z=>hc (by simp [z])) e) (fun b o _ _ hc e _=>⟨o.slots,k b o (fun z=>hc (by simp [z])) e⟩) (fun _ _ _ _ n=>n)
  (fun b o hc e=>⟨o,k b o (fun z=>hc (by simp [z])) e⟩) (fun _ _ e=>e) (fun _ _ _ e=>e) (fun b ps e=>⟨#[],by rw [e];simp⟩) (fun m hm=> ?_) (fun b u e=> ?_) I.bare
 ·have e:b=it:=by simpa using hb
  subst e
  exact ⟨h1,hL,h2,h3⟩
 ·obtain ⟨o,es,ep,ho,r⟩:=hm
  exact ⟨o,es,ep,k _ o (Ne.symm hL) ho,r⟩
 ·refine (I.hok b u e).stay (fun c v hc q=>k c v ?_ q) (fun _ q=>q) fun _ _ q=>q
  rcases hc with z | z
  ·rw [z];exact nit b u e
  ·exact nit c _ z
theorem Inv.tok (I:Inv X pins σ H s) (t:Nat):Inv X pins σ H {s with toks:=t}:=I.un (h':=s.heap) (t':=t) Un.refl I.hok
theorem Inv.kept {t':Nat} (I:Inv X pins σ H s) (k: ∀ b u,s.heap.get? b=some u->h'.get? b=some u):Inv X pins σ H {s with heap:=h',toks:=t'}:=I.un (Un.kept k) (I.hok.kept k)
theorem Inv.laid {a:Addr} {o:HO} {t':Nat} (I:Inv X pins σ H s) (k: ∀ b u,s.heap.get? b=some u->h'.get? b=some u) (hp:s.heap.objs.size<=a) (new:zbz X.prog X.w (upd H a o) h' a o):
  Inv X pins σ (upd H a o) {s with heap:=h',toks:=t'}:=I.un (Un.laid k hp (I.hok.fresh hp)) (I.hok.laid k hp new)
theorem Inv.write {x e:Addr} {o:HO} {t':Nat} (I:Inv X pins σ H s) (mu:Mut (H x)) (he:e=x\/H e=some (.own x)) (k: ∀ b u,b≠e->s.heap.get? b=some u->h'.get? b=some u) (heo: ∃ u,h'.get? e=some u)
  (new:zbz X.prog X.w (upd H x o) h' x o):Inv X pins σ (upd H x o) {s with heap:=h',toks:=t'}:=I.un (Un.write mu he k heo) (I.hok.write mu he k heo new)
theorem Inv.pins_of {pins':List (Addr×Obj)} (I:Inv X pins σ H s) (h: ∀ p∈pins',s.heap.get? p.1=some p.2/\H p.1=none/\p.1≠X.env.locals/\p.1∉X.fs/\ ∀ v,p.2.data≠ .cell v):Inv X pins' σ H s:=
 ⟨I.ok,I.os,I.bare,I.base,I.loc,I.cell,I.free,I.freeC,fun p hp=>(qaK.mp hp).elim (fun z=>I.pin p (List.mem_append_left _ z)) (h p),I.hok,I.len⟩
theorem zfE {N:List Str} (hN:N.Nodup) {i j:Nat} {x:Str} (a:N[i]? = some x) (b:N[j]? = some x):i=j:=by
 obtain ⟨h1,e1⟩:=qac.mp a
 obtain ⟨h2,e2⟩:=qac.mp b
 exact (List.getElem_inj hN).mp (e1.trans e2.symm)
theorem zgV {M:Model} {A:Around} {E:Value->Shared->Prop} {i:Nat} {x:Str} {v:V} {u:Value} {Q:Unit->Shared->Prop} (I:Inv X pins σ H s) (hN:X.N.Nodup) (hi:X.N[i]? = some x) (hx:Loc X.env.scope x) (r:zby v u)
  (h: ∀ s',Inv X pins (σ.set i (some v)) H s'->(∃ a,Heap.SameBut a s.heap s'.heap/\(a=X.env.locals\/X.env.cells.lookup x=some a))->Q () s') (hf:X.fn x=true\/X.env.scope.names.lookup x=some .local:=by first | exact .inl rfl | exact .inr rfl | assumption):wpAny M A (storeName X.env x u) Q E s:=by
 obtain ⟨m,hn,hl⟩:=id I.loc
 have hcls:(X.env.scope.kind== .class || (X.env.scope.kind== .module && X.env.locals != X.env.globals))=false:=by rw [I.ok.kind];rfl
 have hiσ:i<σ.length:=by rw [I.len];exact (qac.mp hi).1
 have cne:=I.cne
 have tracked: ∀ {a:Addr} {h':Heap},(∃ o,s.heap.get? a=some o/\H a=none)->Heap.SameBut a s.heap h'->HOk X.prog X.w H h':=fun {a h'} ha hs b ob e=>by
  obtain ⟨_,_,hfree⟩:=ha
  refine (I.hok b ob e).stay (fun c w' hc q=>(hs.2 c ?_).trans q) (fun _ q=>q) fun _ _ q=>q
  rintro rfl
  rcases hc with rfl | hc
  ·rw [hfree] at e;cases e
  ·rw [hfree] at hc;cases hc
 rcases hx with hk | hk
 ·refine wpAny_storeName_local hk hn (fun h' hn' hs=> ?_) hcls
  obtain ⟨oL,_,_,hoL,_⟩:=id hn
  refine h _ ⟨I.ok,I.os,I.bare,⟨fun b o e n hb hx=> ?_,fun b o e n hb hx=> ?_,I.base.free,fun b o e hx=> ?_,I.base.tups,I.base.frzs,I.base.tbls⟩,⟨_,hn',fun j y v' e1 e2 e3=> ?_⟩,fun y c e=> ?_,I.free,I.freeC,fun p hp=> ?_,tracked ⟨oL,hoL,I.free⟩ hs,by simpa using I.len⟩ ⟨_,hs,.inl rfl⟩
  ·exact (hs.2 b (qaR (qaw (qaQ e) I.ok.above))).trans (I.base.keep b o e n hb hx)
  ·obtain ⟨sl,e1⟩:=I.base.slot b o e n hb hx
   exact ⟨sl,(hs.2 b (qaR (qaw (qaQ e) I.ok.above))).trans e1⟩
  ·obtain ⟨o',e1⟩:=I.base.there b o e hx
   exact ⟨o',(hs.2 b (qaR (qaw (qaQ e) I.ok.above))).trans e1⟩
  ·by_cases hj:j=i
   ·subst hj
    rw [hi] at e1;cases e1
    rw [qai hiσ] at e2
    cases e2
    exact ⟨u,r,.inl ⟨hk,by simp⟩⟩
   ·rw [qao (Ne.symm hj)] at e2
    obtain ⟨u',r',q⟩:=hl j y v' e1 e2 e3
    refine ⟨u',r',?_⟩
    rcases q with ⟨k,e⟩ | ⟨k,c,e,z⟩
    ·refine .inl ⟨k,?_⟩
     have:y≠x:=fun e=>hj (zfE hN e1 (e▸hi))
     simp [this,e]
    ·exact .inr ⟨k,c,e,z.sameBut hs (cne y c e)⟩
  ·obtain ⟨w',z⟩:=I.cell y c e
   exact ⟨w',z.sameBut hs (cne y c e)⟩
  ·obtain ⟨e,n,ne,nf,d⟩:=I.pin p hp
   exact ⟨(hs.2 p.1 ne).trans e,n,ne,nf,d⟩
 ·have hfn:X.fn x=true:=by
   rcases hf with z | z
   ·exact z
   ·rw [z] at hk;cases hk
  obtain ⟨c,hc⟩:=I.ok.has x (.inl hk)
  obtain ⟨w',z⟩:=I.cell x c hc
  refine wpAny_storeName_cell I.ok.kind hk hc z (fun h' hc' hs=> ?_)
  obtain ⟨oc,hoc,hocd⟩:=id z
  refine h {s with heap:=h'} ⟨I.ok,I.os,I.bare,⟨fun b o e n hb hx=> ?_,fun b o e n hb hx=> ?_,I.base.free,fun b o e hx=> ?_,I.base.tups,I.base.frzs,I.base.tbls⟩,⟨m,hn.sameBut hs (Ne.symm (cne x c hc)),fun j y v' e1 e2 e3=> ?_⟩,fun y c' e=> ?_,I.free,I.freeC,fun p hp=> ?_,tracked ⟨oc,hoc,I.freeC x c hc⟩ hs,by simpa using I.len⟩ ⟨c,hs,.inr hc⟩
  ·exact (hs.2 b (qaR (qaw (qaQ e) (I.ok.cab x c hfn hc)))).trans (I.base.keep b o e n hb hx)
  ·obtain ⟨sl,e1⟩:=I.base.slot b o e n hb hx
   exact ⟨sl,(hs.2 b (qaR (qaw (qaQ e) (I.ok.cab x c hfn hc)))).trans e1⟩
  ·obtain ⟨o',e1⟩:=I.base.there b o e hx
   exact ⟨o',(hs.2 b (qaR (qaw (qaQ e) (I.ok.cab x c hfn hc)))).trans e1⟩
  ·by_cases hj:j=i
   ·subst hj
    rw [hi] at e1;cases e1
    rw [qai hiσ] at e2
    cases e2
    exact ⟨u,r,.inr ⟨.inl hk,c,hc,hc'⟩⟩
   ·rw [qao (Ne.symm hj)] at e2
    obtain ⟨u',r',q⟩:=hl j y v' e1 e2 e3
    refine ⟨u',r',?_⟩
    rcases q with q | ⟨k,c',e,z'⟩
    ·exact .inl q
    ·refine .inr ⟨k,c',e,z'.sameBut hs ?_⟩
     rintro rfl
     exact hj (zfE hN e1 (I.ok.inj _ _ _ e hc▸hi))
  ·by_cases hcc:c'=c
   ·subst hcc;exact ⟨_,hc'⟩
   ·obtain ⟨w2,z2⟩:=I.cell y c' e
    exact ⟨w2,z2.sameBut hs hcc⟩
  ·obtain ⟨e,n,ne,nf,d⟩:=I.pin p hp
   refine ⟨(hs.2 p.1 ?_).trans e,n,ne,nf,d⟩
   intro q
   rw [q,hoc] at e
   have q':oc=p.2:=Option.some.inj e
   exact d w' (by rw [<- q'];exact hocd)
theorem zdr {M:Model} {A:Around} {E:Value->Shared->Prop} {i:Nat} {x:Str} {v:V} {u:Value} {Q:Unit->Shared->Prop} (I:Inv X pins σ H s) (hN:X.N.Nodup) (hi:X.N[i]? = some x) (hx:Loc X.env.scope x) (r:zby v u)
  (h: ∀ s',Inv X pins (σ.set i (some v)) H s'->Q () s') (hf:X.fn x=true\/X.env.scope.names.lookup x=some .local:=by first | exact .inl rfl | exact .inr rfl | assumption):wpAny M A (storeName X.env x u) Q E s:=
 zgV I hN hi hx r (fun s' I' _=>h s' I') hf
theorem Inv.call' {s':Shared} {ch:List Addr} (I:Inv X pins σ H s) (ho:s'.os=s.os) (u:Un (frs X.stack) ch H H' s.heap s'.heap) (hok:HOk X.prog X.w H' s'.heap) (hg:AllBare s'.gens)
  (hch: ∀ b∈ch,(b∈X.ex\/X.s₀.heap.objs.size<=b)/\b≠X.env.locals/\(∀ x c,X.env.cells.lookup x=some c->c≠b)/\ ∀ p∈X.pn++pins,p.1≠b):Inv X pins σ H' s':=by
 obtain ⟨h',g',d',t',o'⟩:=s'
 have e:o'=s.os:=ho
 subst e
 exact I.call (g':=g') (t':=t') (d':=d') u hok hg hch
end
noncomputable abbrev XK:=Value->Option Addr->Hp->Prop
noncomputable abbrev St:=List (Option V)
noncomputable abbrev VK:=V->Hp->Prop
noncomputable abbrev TE:=St->Hp->VK->Prop
noncomputable abbrev TT:=St->Hp->(Bool->Hp->Prop)->Prop
noncomputable abbrev TA:=St->Hp->(List V->Hp->Prop)->Prop
structure znv where
 nx:St->Hp->Prop
 rt:VK
 bk:St->Hp->Prop:=fun _ _=>False
 ct:St->Hp->Prop:=fun _ _=>False
noncomputable abbrev TS:=znv->St->Hp->Prop
def EP (X:Cx) (pins:List (Addr×Obj)) (σ:St) (Q:VK) (u:Value) (s':Shared):Prop:= ∃ v H',Inv X pins σ H' s'/\zby v u/\Q v H'
def TP (X:Cx) (pins:List (Addr×Obj)) (σ:St) (Q:Bool->Hp->Prop) (b:Bool) (s':Shared):Prop:= ∃ H',Inv X pins σ H' s'/\Q b H'
def AP (X:Cx) (pins:List (Addr×Obj)) (σ:St) (Q:List V->Hp->Prop) (us:List Value) (s':Shared):Prop:= ∃ vs H',Inv X pins σ H' s'/\zbm vs us/\Q vs H'
def SP (X:Cx) (pins:List (Addr×Obj)) (D:znv) (f:Flow) (s':Shared):Prop:=
 match f with
 | .next=> ∃ σ' H',Inv X pins σ' H' s'/\D.nx σ' H'
 | .brk=> ∃ σ' H',Inv X pins σ' H' s'/\D.bk σ' H'
 | .cont=> ∃ σ' H',Inv X pins σ' H' s'/\D.ct σ' H'
 | .ret u=> ∃ v σ' H',Inv X pins σ' H' s'/\zby v u/\D.rt v H'
def PE (X:Cx) (e:Expr) (t:TE):Prop:=
 ∀ (pins:List (Addr×Obj)) (s:Shared) (σ:St) (H:Hp) (Q:VK),Inv X pins σ H s->t σ H Q->wpAny (model X.prog X.w) X.A (eval e X.env) (EP X pins σ Q) X.xe s
def PT (X:Cx) (e:Expr) (t:TT):Prop:=
 ∀ (pins:List (Addr×Obj)) (s:Shared) (σ:St) (H:Hp) (Q:Bool->Hp->Prop),Inv X pins σ H s->t σ H Q->wpAny (model X.prog X.w) X.A (isTrue e X.env (eval e X.env)) (TP X pins σ Q) X.xe s
def PW (X:Cx) (e:Expr) (t:TT):Prop:=
 ∀ (whole:Sem Value) (pins:List (Addr×Obj)) (s:Shared) (σ:St) (H:Hp) (Q:Bool->Hp->Prop),Inv X pins σ H s->t σ H Q->wpAny (model X.prog X.w) X.A (isTrue e X.env whole) (TP X pins σ Q) X.xe s
theorem PW.pt {X:Cx} {e:Expr} {t:TT} (h:PW X e t):PT X e t:=h _
def PA (X:Cx) (es:List Expr) (t:TA):Prop:=
 ∀ (pos:Pos) (pins:List (Addr×Obj)) (s:Shared) (σ:St) (H:Hp) (Q:List V->Hp->Prop),Inv X pins σ H s->t σ H Q->wpAny (model X.prog X.w) X.A (spliced (backTo pos (starEach es X.env))) (AP X pins σ Q) X.xe s
def PS (X:Cx) (st:Stmt) (t:TS):Prop:=
 ∀ (pins:List (Addr×Obj)) (s:Shared) (σ:St) (H:Hp) (D:znv),Inv X pins σ H s->t D σ H->wpAny (model X.prog X.w) X.A (exec st X.env) (SP X pins D) X.xe s
def PSs (X:Cx) (st:List Stmt) (t:TS):Prop:=
 ∀ (pins:List (Addr×Obj)) (s:Shared) (σ:St) (H:Hp) (D:znv),Inv X pins σ H s->t D σ H->wpAny (model X.prog X.w) X.A (execs st X.env) (SP X pins D) X.xe s
theorem thn {α:Type} {t:Sem α} {Q Q':α->Shared->Prop} {M:Model} {A:Around} {E:Value->Shared->Prop} {s:Shared} (h:wpAny M A t Q E s) (hQ: ∀ a s,Q a s->Q' a s):wpAny M A t Q' E s:=qaZ h hQ fun _ _ x=>x
section
variable {X:Cx}
noncomputable def zub (i:Nat):TE:=fun σ H Q=> ∃ v,σ[i]? = some (some v)/\Q v H
noncomputable def tC (v:V):TE:=fun _ H Q=>Q v H
theorem zm8 {i:Nat} {x:Str} {pos:Pos} (hN:X.N[i]? = some x) (hv:Vis X.env.scope x) (hd:(x==("__debug__":Str))=false:=by decide) (hcd:(x==("__classdict__":Str))=false:=by decide):PE X (.Name x pos) (zub i):=by
 intro pins s σ H Q I h
 obtain ⟨v,e,h⟩:=h
 obtain ⟨m,hn,hl⟩:=I.loc
 obtain ⟨u,r,l⟩:=hl i x v hN e hv
 have fin:EP X pins σ Q u s:=⟨v,H,I,r,h⟩
 rcases l with ⟨hk,hm⟩ | ⟨hk,c,hc,hcell⟩
 ·exact wpAny_Name (wpAny_loadName_local I.ok.kind hk hn hm fin) hd
 ·rcases hk with hk | hk
  ·exact wpAny_Name (wpAny_loadName_cell I.ok.kind hk hc hcell fin) hd
  ·exact wpAny_Name (wpAny_loadName_free I.ok.kind hk hc hcell fin hcd) hd
theorem zsr {i j pos}:PE X (.Constant (.int i) j pos) (tC (.int i)):=fun _ _ _ H _ I h=>wpAny_Constant_int ⟨.int i,H,I.tok _,⟨_,rfl⟩,h⟩
theorem zrC {b j pos}:PE X (.Constant (.bool b) j pos) (tC (.bl b)):=fun _ _ _ H _ I h=>Constant_bool ⟨.bl b,H,I,rfl,h⟩
theorem zr0 {j pos}:PE X (.Constant .none j pos) (tC .non):=fun _ _ _ H _ I h=>Constant_none ⟨.non,H,I,rfl,h⟩
theorem znd {x j pos}:PE X (.Constant (.str x) j pos) (tC (.str x)):=fun _ _ _ H _ I h=>Calls.Constant_str ⟨.str x,H,I.tok _,⟨_,rfl⟩,h⟩
def Gl (X:Cx) (x:Str):Prop:=X.env.kindOf x=some .globalImplicit
theorem zg7 {E:Value->Shared->Prop} {pins:List (Addr×Obj)} {s:Shared} {σ:St} {H:Hp} {x:Str} {u:Value} {pos:Pos} {Q:Value->Shared->Prop} (I:Inv X pins σ H s) (hg:Gl X x) (hm:X.mg x=some u) (h:Q u s)
  (hd:(x==("__debug__":Str))=false:=by decide):wpAny (model X.prog X.w) X.A (eval (.Name x pos) X.env) Q E s:=
 Calls.Name_function_global I.ok.kind hg (Calls.loadGlobal_global (by rw [I.ok.glob];exact I.mod.glob.keeps I.bk) hm h) hd
theorem zd4 {E:Value->Shared->Prop} {pins:List (Addr×Obj)} {s:Shared} {σ:St} {H:Hp} {x:Str} {u:Value} {pos:Pos} {Q:Value->Shared->Prop} (I:Inv X pins σ H s) (hg:Gl X x) (hm:X.mg x=none) (hv:bootBuiltins x=some u) (h:Q u s)
  (hn:x≠"__name__":=by decide) (hd:(x==("__debug__":Str))=false:=by decide):wpAny (model X.prog X.w) X.A (eval (.Name x pos) X.env) Q E s:=by
 obtain ⟨mb,h1,h2⟩:=I.mod.blt
 exact Calls.Name_function_global I.ok.kind hg (Calls.loadGlobal_builtin (by rw [I.ok.glob];exact I.mod.glob.keeps I.bk) hm (by rw [I.ok.blt];exact h1.keeps I.bk) ((h2 x hn).trans hv) h) hd
theorem zpe {x:Str} {v:V} {u:Value} {pos:Pos} (hg:Gl X x) (hm:X.mg x=some u) (r:zby v u) (hd:(x==("__debug__":Str))=false:=by decide):PE X (.Name x pos) (tC v):=
 fun _ _ _ H _ I h=>zg7 I hg hm ⟨v,H,I,r,h⟩ hd
theorem zlb {x:Str} {v:V} {u:Value} {pos:Pos} (hg:Gl X x) (hm:X.mg x=none) (hv:bootBuiltins x=some u) (r:zby v u) (hn:x≠"__name__":=by decide) (hd:(x==("__debug__":Str))=false:=by decide):PE X (.Name x pos) (tC v):=
 fun _ _ _ H _ I h=>zd4 I hg hm hv ⟨v,H,I,r,h⟩ hn hd
noncomputable def t2I (ta tb:TE) (k:Int->Int->Hp->Prop):St->Hp->Prop:=fun σ H=>ta σ H fun x H1=>tb σ H1 fun y H2=> ∃ i j,x= .int i/\y= .int j/\k i j H2
variable {a b:Expr} {ta tb:TE} {pos:Pos}
noncomputable def zdh (p:Int->Int->Bool) (ta tb:TE):TE:=fun σ H Q=>t2I ta tb (fun i j H2=>Q (.bl (p i j)) H2) σ H
noncomputable def tB (t:TE):TT:=fun σ H Q=>t σ H fun x H1=> ∃ c,x= .bl c/\Q c H1
theorem zqI {e:Expr} {t:TE} (h:PE X e t) (he: ∀ whole,isTrue e X.env whole=(do let v<-whole;standAt e.pos;holding [v] (truthy v)):=by intro _;rfl):PT X e (tB t):=by
 intro pins s σ H Q I hw
 refine isTrue_plain (thn (h pins s σ H _ I hw) fun v s1 ⟨x,H1,I1,r1,q1⟩=> ?_) (he _)
 obtain ⟨d,rfl,q⟩:=q1
 cases r1
 exact wpAny_truthy_bool ⟨H1,I1,q⟩
variable {tA tB':TT} {rest:List Expr}
noncomputable def zpT (t u:TT):TT:=fun σ H Q=>t σ H fun c H1=>if c=true then u σ H1 Q else Q false H1
noncomputable def tOr (t u:TT):TT:=fun σ H Q=>t σ H fun c H1=>if c=true then Q true H1 else u σ H1 Q
noncomputable def zg2 (t:TT):TT:=fun σ H Q=>t σ H fun c H1=>Q (!c) H1
theorem pw_and1 (ha:PT X a tA):PW X (.BoolOp .And [a] pos) tA:=by
 intro wh pins s σ H Q I h
 refine isTrue_and (thn (ha pins s σ H Q I h) fun c s1 e=> ?_)
 cases c with
 | true=>exact isTrue_and_nil e
 | false=>exact e
theorem pw_or1 (ha:PT X a tA):PW X (.BoolOp .Or [a] pos) tA:=by
 intro wh pins s σ H Q I h
 refine isTrue_or (thn (ha pins s σ H Q I h) fun c s1 e=> ?_)
 cases c with
 | false=>exact isTrue_or_nil e
 | true=>exact e
theorem pw_and (ha:PT X a tA) (hb:PW X (.BoolOp .And (b::rest) pos) tB'):PW X (.BoolOp .And (a::b::rest) pos) (zpT tA tB'):=by
 intro wh pins s σ H Q I h
 refine isTrue_and (thn (ha pins s σ H _ I h) fun c s1 ⟨H1,I1,q1⟩=> ?_)
 cases c with
 | true=>exact hb wh pins s1 σ H1 Q I1 q1
 | false=>exact ⟨H1,I1,q1⟩
theorem pw_or (ha:PT X a tA) (hb:PW X (.BoolOp .Or (b::rest) pos) tB'):PW X (.BoolOp .Or (a::b::rest) pos) (tOr tA tB'):=by
 intro wh pins s σ H Q I h
 refine isTrue_or (thn (ha pins s σ H _ I h) fun c s1 ⟨H1,I1,q1⟩=> ?_)
 cases c with
 | true=>exact ⟨H1,I1,q1⟩
 | false=>exact hb wh pins s1 σ H1 Q I1 q1
theorem zqj (ha:PT X a tA):PT X (.UnaryOp .Not a pos) (zg2 tA):=by
 intro pins s σ H Q I h
 exact isTrue_not (ha pins s σ H (fun c H1=>Q (!c) H1) I h)
noncomputable def zs1 (ta tb:TE):TE:=fun σ H Q=>ta σ H fun x H1=> ∃ c,x= .bl c/\if c=true then tb σ H1 Q else Q (.bl false) H1
noncomputable def zuV (ta tb:TE):TE:=fun σ H Q=>ta σ H fun x H1=> ∃ c,x= .bl c/\if c=true then Q (.bl true) H1 else tb σ H1 Q
noncomputable def ztd (ta:TE):TE:=fun σ H Q=>ta σ H fun x H1=> ∃ c,x= .bl c/\Q (.bl (!c)) H1
theorem zqG {op} {t:TE} (h:PE X a t):PE X (.BoolOp op [a] pos) t:=fun pins s σ H Q I hw=>BoolOp_one (h pins s σ H Q I hw)
theorem zqR (ha:PE X a ta) (hb:PE X (.BoolOp .And (b::rest) pos) tb):PE X (.BoolOp .And (a::b::rest) pos) (zs1 ta tb):=by
 intro pins s σ H Q I h
 refine BoolOp_and (thn (ha pins s σ H _ I h) fun v s1 ⟨x,H1,I1,r1,q1⟩=> ?_)
 obtain ⟨c,rfl,q1⟩:=q1
 cases r1
 refine wpAny_truthy_bool ?_
 cases c with
 | true=>exact hb pins s1 σ H1 Q I1 q1
 | false=>exact ⟨.bl false,H1,I1,rfl,q1⟩
theorem zsH (ha:PE X a ta) (hb:PE X (.BoolOp .Or (b::rest) pos) tb):PE X (.BoolOp .Or (a::b::rest) pos) (zuV ta tb):=by
 intro pins s σ H Q I h
 refine BoolOp_or (thn (ha pins s σ H _ I h) fun v s1 ⟨x,H1,I1,r1,q1⟩=> ?_)
 obtain ⟨c,rfl,q1⟩:=q1
 cases r1
 refine wpAny_truthy_bool ?_
 cases c with
 | false=>exact hb pins s1 σ H1 Q I1 q1
 | true=>exact ⟨.bl true,H1,I1,rfl,q1⟩
theorem zqf (ha:PE X a ta):PE X (.UnaryOp .Not a pos) (ztd ta):=by
 intro pins s σ H Q I h
 refine UnaryOp_ (thn (ha pins s σ H _ I h) fun v s1 ⟨x,H1,I1,r1,q1⟩=> ?_)
 obtain ⟨c,rfl,q1⟩:=q1
 cases r1
 exact not_of (wpAny_truthy_bool ⟨.bl (!c),H1,I1,rfl,q1⟩)
noncomputable def tIf (t:TT) (ta tb:TE):TE:=fun σ H Q=>t σ H fun c H1=>if c=true then ta σ H1 Q else tb σ H1 Q
theorem zlv {c:Expr} (hc:PT X c tA) (ha:PE X a ta) (hb:PE X b tb):PE X (.IfExp c a b pos) (tIf tA ta tb):=by
 intro pins s σ H Q I h
 refine wpAny_IfExp (thn (hc pins s σ H _ I h) fun d s1 ⟨H1,I1,q1⟩=> ?_)
 cases d with
 | true=>exact ha pins s1 σ H1 Q I1 q1
 | false=>exact hb pins s1 σ H1 Q I1 q1
end
def SqL (K:W.Frag) (H:Hp) (a:Addr) (xs:List V):Prop:=
 Rd H a (.lst xs)\/
  ∃ (o:Obj) (its:Array Value) (n:Nat),K.lookup a=some o/\o.cls= .type "list"/\o.dict=none/\o.data= .seq its n/\its.size<=sizeLine/\zbm xs its.toList
def SqT (K:W.Frag) (H:Hp) (a:Addr) (xs:List V):Prop:=
 Rd H a (.tup xs)\/
  ∃ (o:Obj) (its:Array Value) (n:Nat),K.lookup a=some o/\o.cls= .type "tuple"/\o.dict=none/\o.data= .seq its n/\its.size<=sizeLine/\zbm xs its.toList
noncomputable def zut:Value->Option V
 | .none=>some .non
 | .bool b=>some (.bl b)
 | .int i _=>some (.int i)
 | .str x _=>some (.str x)
 | .bytes b _=>some (.byt b)
 | .float b _=>some (.flt b)
 | .ref a=>some (.ref a)
 | .type n=>some (.ty n)
 | _=>none
theorem zby.abs {x:V} {u:Value} (r:zby x u):zut u=some x:=by
 cases x with
 | non=>cases r;rfl
 | bl _=>cases r;rfl
 | int _=>obtain ⟨t,rfl⟩:=r;rfl
 | str _=>obtain ⟨t,rfl⟩:=r;rfl
 | byt _=>obtain ⟨t,rfl⟩:=r;rfl
 | flt _=>obtain ⟨t,rfl⟩:=r;rfl
 | ref _=>cases r;rfl
 | ty _=>cases r;rfl
theorem zby.inj {x y:V} {u:Value} (r:zby x u) (q:zby y u):x=y:=Option.some.inj (r.abs.symm.trans q.abs)
theorem zbm.inj: ∀ {xs ys:List V} {us:List Value},zbm xs us->zbm ys us->xs=ys
 | _,_,_,.nil,.nil=>rfl
 | _,_,_,.cons r t,.cons r' t'=>by rw [r.inj r',zbm.inj t t']
section
variable {X:Cx} {pins:List (Addr×Obj)} {σ:St} {H:Hp} {s:Shared} {a:Addr} {xs ys:List V}
theorem SqL.of {K:W.Frag} (h:H a=some (.lst xs)):SqL K H a xs:= .inl (.inl h)
theorem Inv.list (I:Inv X pins σ H s) (h:SqL X.K H a xs): ∃ its:List Value,zbm xs its/\PlainL s.heap a its.toArray/\xs.length<=sizeLine:=by
 rcases h with h | ⟨o,its,n,hk,hc,hd,hs,hz,r⟩
 ·obtain ⟨z,its,n,r,e⟩:=h.ok I.hok
  exact ⟨its,r,⟨_,n,e,rfl,rfl,rfl⟩,z⟩
 ·refine ⟨its.toList,r,⟨o,n,I.kIn a o hk,hc,hd,by simpa using hs⟩,?_⟩
  have e:=r.length
  simp only [qas] at e
  omega
theorem Inv.tupleD (I:Inv X pins σ H s) (h:SqT X.K H a xs): ∃ its:List Value,zbm xs its/\zi2 s.heap a its.toArray/\xs.length<=sizeLine:=by
 rcases h with h | ⟨o,its,n,hk,hc,hd,hs,hz,r⟩
 ·obtain ⟨z,its,r,p⟩:=h.ok I.hok
  exact ⟨its,r,p,z⟩
 ·refine ⟨its.toList,r,⟨o,I.kIn a o hk,hc,n,by simpa using hs,hd⟩,?_⟩
  have e:=r.length
  simp only [qas] at e
  omega
theorem Inv.tuple (I:Inv X pins σ H s) (h:SqT X.K H a xs): ∃ its:List Value,zbm xs its/\IsTup s.heap a its.toArray/\xs.length<=sizeLine:=by
 obtain ⟨its,r,p,z⟩:=I.tupleD h
 exact ⟨its,r,p.is,z⟩
theorem Inv.list_inj (I:Inv X pins σ H s) (h:SqL X.K H a xs) (h':SqL X.K H a ys):xs=ys:=by
 obtain ⟨its,r,⟨o,n,e,_,_,d⟩,_⟩:=I.list h
 obtain ⟨its',r',⟨o',n',e',_,_,d'⟩,_⟩:=I.list h'
 rw [e] at e';cases e'
 rw [d] at d'
 injection d' with d1 _
 have:its=its':=by simpa using congrArg Array.toList d1
 subst this
 exact r.inj r'
theorem Inv.tuple_inj (I:Inv X pins σ H s) (h:SqT X.K H a xs) (h':SqT X.K H a ys):xs=ys:=by
 obtain ⟨its,r,⟨o,e,_,n,d⟩,_⟩:=I.tuple h
 obtain ⟨its',r',⟨o',e',_,n',d'⟩,_⟩:=I.tuple h'
 rw [e] at e';cases e'
 rw [d] at d'
 injection d' with d1 _
 have:its=its':=by simpa using congrArg Array.toList d1
 subst this
 exact r.inj r'
end
noncomputable abbrev Cx.wish (X:Cx) (E:Value->Shared->Prop):Cx:={X with xe:=E}
noncomputable abbrev Cx.nox (X:Cx):Cx:=X.wish fun _ _=>False
theorem Cx.Ok.wish {X:Cx} (ok:X.Ok) (E:Value->Shared->Prop):(X.wish E).Ok:=
 ⟨ok.mod,ok.kind,ok.glob,ok.blt,ok.above,ok.inj,ok.has,ok.cab,ok.hd,ok.hx,ok.frames,ok.stk,ok.exf,ok.bs,ok.bsz,ok.noex,ok.exfs,ok.funs,ok.frf⟩
theorem Cx.Ok.unwish {X:Cx} {E:Value->Shared->Prop} (ok:(X.wish E).Ok):X.Ok:=
 ⟨ok.mod,ok.kind,ok.glob,ok.blt,ok.above,ok.inj,ok.has,ok.cab,ok.hd,ok.hx,ok.frames,ok.stk,ok.exf,ok.bs,ok.bsz,ok.noex,ok.exfs,ok.funs,ok.frf⟩
section
variable {X:Cx} {pins:List (Addr×Obj)} {σ:St} {H:Hp} {s:Shared} {E:Value->Shared->Prop}
theorem Inv.wish (I:Inv X pins σ H s) (E:Value->Shared->Prop):Inv (X.wish E) pins σ H s:=⟨I.ok.wish E,I.os,I.bare,I.base,I.loc,I.cell,I.free,I.freeC,I.pin,I.hok,I.len⟩
theorem Inv.unwish (I:Inv (X.wish E) pins σ H s):Inv X pins σ H s:=⟨I.ok.unwish,I.os,I.bare,I.base,I.loc,I.cell,I.free,I.freeC,I.pin,I.hok,I.len⟩
theorem SP.unwish {D:znv} {f:Flow} {s':Shared} (h:SP (X.wish E) pins D f s'):SP X pins D f s':=by
 cases f with
 | next=>obtain ⟨σ',H',I,q⟩:=h;exact ⟨σ',H',I.unwish,q⟩
 | brk=>obtain ⟨σ',H',I,q⟩:=h;exact ⟨σ',H',I.unwish,q⟩
 | cont=>obtain ⟨σ',H',I,q⟩:=h;exact ⟨σ',H',I.unwish,q⟩
 | ret u=>obtain ⟨v,σ',H',I,r,q⟩:=h;exact ⟨v,σ',H',I.unwish,r,q⟩
theorem PSs.nox {st:List Stmt} {t:TS} (h:PSs X.nox st t):PSs X st t:=fun pins s σ H D I hw=>
 qaZ (h pins s σ H D (I.wish _) hw) (fun _ _ q=>q.unwish) fun _ _ z=>qa0 z
end
section
variable {X:Cx} {st:Stmt} {rest:List Stmt} {t u:TS} {e:Expr} {te:TE} {pos:Pos}
noncomputable def ztB:TS:=fun D σ H=>D.nx σ H
noncomputable def zuw (t u:TS):TS:=fun D σ H=>t {D with nx:=u D} σ H
theorem zn2:PSs X [] ztB:=fun _ _ σ H _ I h=>wpAny_execs_nil ⟨σ,H,I,h⟩
theorem zlH (h1:PS X st t) (h2:PSs X rest u):PSs X (st::rest) (zuw t u):=by
 intro pins s σ H D I h
 refine wpAny_execs_cons (thn (h1 pins s σ H {D with nx:=u D} I h) fun f s1 q=> ?_)
 cases f with
 | next=>
  obtain ⟨σ',H',I',q⟩:=q
  exact h2 pins s1 σ' H' D I' q
 | ret v=>exact q
 | brk=>exact q
 | cont=>exact q
theorem znJ (h1:PS X st t):PSs X [st] t:=by
 intro pins s σ H D I h
 refine wpAny_execs_cons (thn (h1 pins s σ H D I h) fun f s1 q=> ?_)
 cases f with
 | next=>exact wpAny_execs_nil q
 | ret v=>exact q
 | brk=>exact q
 | cont=>exact q
theorem Inv.quiet {pins:List (Addr×Obj)} {σ:St} {H:Hp} {s:Shared} (I:Inv X pins σ H s):interactive X.env=false:=by simp [interactive,I.ok.kind]
noncomputable def zt6 (te:TE):TS:=fun D σ H=>te σ H fun _ H1=>D.nx σ H1
theorem zob (he:PE X e te) (hs:swapsWith e none pos.line X.env=pure false:=by rfl):PS X (.Expr e pos) (zt6 te):=by
 intro pins s σ H D I h
 exact wpAny_Expr_any (thn (he pins s σ H _ I h) fun v s1 ⟨x,H1,I1,r1,q1⟩=>⟨σ,H1,I1,q1⟩) I.quiet hs
noncomputable def zuX (te:TE):TS:=fun D σ H=>te σ H D.rt
theorem zrD (he:PE X e te):PS X (.Return (some e) pos) (zuX te):=by
 intro pins s σ H D I h
 exact wpAny_Return_some (thn (he pins s σ H _ I h) fun v s1 ⟨x,H1,I1,r1,q1⟩=>⟨x,σ,H1,I1,r1,q1⟩)
noncomputable def zuJ (c:TT) (t u:TS):TS:=fun D σ H=>c σ H fun b H1=>if b=true then t D σ H1 else u D σ H1
theorem zsQ {c:Expr} {a b:List Stmt} {tc:TT} (hc:PT X c tc) (ha:PSs X a t) (hb:PSs X b u):PS X (.If c a b pos) (zuJ tc t u):=by
 intro pins s σ H D I h
 refine wpAny_If (thn (hc pins s σ H _ I h) fun d s1 ⟨H1,I1,q1⟩=> ?_)
 cases d with
 | true=>exact ha pins s1 σ H1 D I1 q1
 | false=>exact hb pins s1 σ H1 D I1 q1
end
noncomputable abbrev TG:=V->St->Hp->(St->Hp->Prop)->Prop
noncomputable abbrev TGs:=List V->St->Hp->(St->Hp->Prop)->Prop
def PG (X:Cx) (target:Expr) (t:TG):Prop:=
 ∀ (pins:List (Addr×Obj)) (s:Shared) (σ:St) (H:Hp) (v:V) (u:Value) (Q:St->Hp->Prop),Inv X pins σ H s->zby v u->t v σ H Q->
  wpAny (model X.prog X.w) X.A (assign target X.env u) (fun _ s'=> ∃ σ' H',Inv X pins σ' H' s'/\Q σ' H') X.xe s
def PGs (X:Cx) (ts:List Expr) (t:TGs):Prop:=
 ∀ (pins:List (Addr×Obj)) (s:Shared) (σ:St) (H:Hp) (vs:List V) (us:List Value) (Q:St->Hp->Prop),Inv X pins σ H s->zbm vs us->t vs σ H Q->
  wpAny (model X.prog X.w) X.A (assignInOrder ((assignEach ts X.env).map (·.2)) us) (fun _ s'=> ∃ σ' H',Inv X pins σ' H' s'/\Q σ' H') X.xe s
noncomputable abbrev zsv:=V->V->V->Hp->(Hp->Prop)->Prop
def zsR (X:Cx) (t:zsv):Prop:=
 ∀ (pins:List (Addr×Obj)) (s:Shared) (σ:St) (H:Hp) (o i v:V) (ov iv u:Value) (Q:Hp->Prop),Inv X pins σ H s->zby o ov->zby i iv->zby v u->t o i v H Q->
  wpAny (model X.prog X.w) X.A (setItem ov iv u) (fun _ s'=> ∃ H',Inv X pins σ H' s'/\Q H') X.xe s
section
variable {X:Cx} {pos:Pos}
noncomputable def znW (i:Nat):TG:=fun v σ H Q=>Q (σ.set i (some v)) H
theorem zpt {i:Nat} {x:Str} (hN:X.N.Nodup) (hi:X.N[i]? = some x) (hx:Loc X.env.scope x) (hf:X.fn x=true\/X.env.scope.names.lookup x=some .local:=by first | exact .inl rfl | exact .inr rfl | assumption):PG X (.Name x pos) (znW i):=by
 intro pins s σ H v u Q I r h
 exact wpAny_assign_Name (zdr I hN hi hx r (fun s' I'=>⟨_,H,I',h⟩) hf)
noncomputable def zuK:TGs:=fun vs σ H Q=>vs=[]/\Q σ H
noncomputable def ztx (t:TG) (u:TGs):TGs:=fun vs σ H Q=> ∃ v r,vs=v::r/\t v σ H fun σ' H'=>u r σ' H' Q
theorem zou:PGs X [] zuK:=by
 intro pins s σ H vs us Q I r h
 obtain ⟨e,h⟩:=h
 subst e
 cases r
 exact assignInOrder_nil ⟨σ,H,I,h⟩
theorem zl1 {e:Expr} {es:List Expr} {t:TG} {u:TGs} (h1:PG X e t) (h2:PGs X es u)
  (hs:(assignEach (e::es) X.env).map (·.2)=assign e X.env::(assignEach es X.env).map (·.2):=by rfl):PGs X (e::es) (ztx t u):=by
 intro pins s σ H vs us Q I r h
 obtain ⟨v,vr,e1,h⟩:=h
 subst e1
 cases r with
 | cons r rr=>
  rw [hs]
  refine assignInOrder_cons (thn (h1 pins s σ H _ _ _ I r h) fun _ s1 ⟨σ1,H1,I1,q1⟩=> ?_)
  exact h2 pins s1 σ1 H1 _ _ Q I1 rr q1
noncomputable def zuq (K:W.Frag) (n:Nat) (t:TGs):TG:=fun v σ H Q=> ∃ a xs,v= .ref a/\SqT K H a xs/\xs.length=n/\t xs σ H Q
theorem zrt {es:List Expr} {k:Nat} {t:TGs} {n:Nat} (hc:X.calm=true) (h:PGs X es t)
  (hn:(assignEach es X.env).length=n:=by rfl) (hst:(assignEach es X.env).findIdx? (·.1)=none:=by rfl):PG X (.Tuple es k pos) (zuq X.K n t):=by
 intro pins s σ H v u Q I r hw
 obtain ⟨a,xs,e1,hq,hl,hw⟩:=hw
 subst e1
 cases r
 obtain ⟨its,rv,ht,hz⟩:=I.tuple hq
 refine assign_Tuple_tuple (I.ok.hd hc) ht (by simp [hn, <-hl,rv.length]) hst fun h' hx=> ?_
 have I1:Inv X pins σ H {s with heap:=h'}:=I.kept (t':=s.toks) fun b o e=>hx b o (qaR (qaQ e)) e
 exact h pins _ σ H xs _ Q I1 (by simpa using rv) hw
noncomputable def zug (to ti:TE) (t:zsv):TG:=fun v σ H Q=>to σ H fun o H1=>ti σ H1 fun i H2=>t o i v H2 fun H3=>Q σ H3
theorem zqN {o i:Expr} {to ti:TE} {t:zsv} (ho:PE X o to) (hi:PE X i ti) (hs:zsR X t)
  (ha: ∀ v,assign (.Subscript o i pos) X.env v=(do
    let ov<-holding [v] (eval o X.env)
    let iv<-holding [v,ov] (eval i X.env)
    standAt pos
    holding [v,ov,iv] (setItem ov iv v)
    release [v,ov,iv] []):=by intro _;rfl):PG X (.Subscript o i pos) (zug to ti t):=by
 intro pins s σ H v u Q I r h
 rw [ha]
 refine qaW (qaO (thn (ho pins s σ H _ I h) fun ov s1 ⟨x,H1,I1,r1,q1⟩=> ?_))
 refine qaW (qaO (thn (hi pins s1 σ H1 _ I1 q1) fun iv s2 ⟨y,H2,I2,r2,q2⟩=> ?_))
 refine qaW (wpAny_standAt (qaW (qaO (thn (hs pins s2 σ H2 x y v ov iv u _ I2 r1 r2 r q2) fun _ s3 ⟨H3,I3,q3⟩=> ?_))))
 exact wpAny_release ⟨σ,H3,I3,q3⟩
noncomputable def ztw (te:TE) (g:TG):TS:=fun D σ H=>te σ H fun x H1=>g x σ H1 D.nx
theorem zrv {tg e:Expr} {te:TE} {g:TG} (he:PE X e te) (hg:PG X tg g) (hs:swapsWithSole [tg] e pos.line X.env=pure false:=by rfl) (hw:swappedStores [tg] e X.env=pure none:=by rfl)
  (h1:(assignEach [tg] X.env).map (·.2)=[assign tg X.env]:=by rfl):PS X (.Assign [tg] e pos) (ztw te g):=by
 intro pins s σ H D I h
 refine wpAny_Assign_stores (thn (he pins s σ H _ I h) fun v s1 ⟨x,H1,I1,r1,q1⟩=> ?_) hs hw
 rw [h1]
 exact thn (hg pins s1 σ H1 x v _ I1 r1 q1) fun _ s2 q=>q
theorem zqo {i:Nat} {x:Str} {e:Expr} {te:TE} {pos':Pos} (hN:X.N.Nodup) (hi:X.N[i]? = some x) (hx:Loc X.env.scope x) (he:PE X e te) (hs:swapsWith e (some (.Name x pos')) pos.line X.env=pure false:=by rfl) (hf:X.fn x=true\/X.env.scope.names.lookup x=some .local:=by first | exact .inl rfl | exact .inr rfl | assumption):
  PS X (.Assign [.Name x pos'] e pos) (ztw te (znW i)):=by
 intro pins s σ H D I h
 refine wpAny_Assign_Name (thn (he pins s σ H _ I h) fun v s1 ⟨y,H1,I1,r1,q1⟩=> ?_) hs
 exact zdr I1 hN hi hx r1 (fun s2 I2=>⟨_,H1,I2,q1⟩) hf
noncomputable def zt9 (i j:Nat) (ta:TA):TS:=fun D σ H=>ta σ H fun vs H1=> ∃ v w,vs=[v,w]/\D.nx ((σ.set i (some v)).set j (some w)) H1
theorem zrG {i j:Nat} {x y:Str} {a b:Expr} {ta:TA} {px py pt:Pos} {kt k2 pt2} (hc:X.calm=true) (hN:X.N.Nodup) (hi:X.N[i]? = some x) (hj:X.N[j]? = some y) (hij:i≠j)
  (hx:X.env.scope.names.lookup x=some .local) (hy:X.env.scope.names.lookup y=some .local) (ha:PA X [a,b] ta)
  (hw:swappedStores [.Tuple [.Name x px,.Name y py] kt pt] (.Tuple [a,b] k2 pt2) X.env=pure (some [x,y]))
  (hs:swapsWithSole [.Tuple [.Name x px,.Name y py] kt pt] (.Tuple [a,b] k2 pt2) pos.line X.env=pure false:=by rfl):
  PS X (.Assign [.Tuple [.Name x px,.Name y py] kt pt] (.Tuple [a,b] k2 pt2) pos) (zt9 i j ta):=by
 intro pins s σ H D I h
 rw [exec_Assign_arm]
 refine qaW (wpAny_standAt ?_)
 rw [hs]
 refine qaW (qaX ?_)
 rw [qa5 (by decide)]
 refine qaW (Tuple_ (thn (ha _ pins s σ H _ I h) fun us s1 ⟨vs,H1,I1,r1,q1⟩=> ?_))
 obtain ⟨v,w,e1,q1⟩:=q1
 subst e1
 obtain ⟨u1,u2,rfl,rv,rw'⟩: ∃ u1 u2,us=[u1,u2]/\zby v u1/\zby w u2:=by
  cases r1 with
  | cons p q=>
   cases q with
   | cons p' q'=>
    cases q'
    exact ⟨_,_,rfl,p,p'⟩
 refine qaC ?_ (by show 2<=sizeLine;decide)
 have I2:Inv X pins σ H1 {s1 with heap:=s1.heap.push {cls:= .type "tuple",data:= .seq [u1,u2].toArray}}:=I1.kept (t':=s1.toks) fun b o e=>qag _ e
 rw [hw]
 refine qaW (qaX ?_)
 show wpAny (model X.prog X.w) X.A (do rule "assign.swapped-stores";let items<-unpackItems (.ref s1.heap.objs.size) 2 none;assignInOrder [fun v=>bindName X.env y v,fun v=>bindName X.env x v] items.reverse;pure Flow.next) _ _ _
 refine qaW (wpAny_rule (qaW (unpackItems_tuple (items:= #[u1,u2]) (I.ok.hd hc) (IsTup.new s1.heap _) fun h' hx'=> ?_)))
 have I3:=I2.kept (h':=h') (t':=s1.toks) fun b o e=>hx' b o (qaR (qaQ e)) e
 show wpAny _ _ (assignInOrder [fun v=>bindName X.env y v,fun v=>bindName X.env x v] [u2,u1]>>=fun _=>pure Flow.next) _ _ _
 refine qaW (assignInOrder_cons (wpAny_bindName (zdr I3 hN hj (.inl hy) rw' (fun s2 I4=> ?_) (.inr hy))))
 refine assignInOrder_cons (wpAny_bindName (zdr I4 hN hi (.inl hx) rv (fun s3 I5=>assignInOrder_nil (qaX ?_)) (.inr hx)))
 rw [List.set_comm _ _ (Ne.symm hij)] at I5
 exact ⟨_,H1,I5,q1⟩
end
section
variable {X:Cx} {pos:Pos}
noncomputable def zst (c:TT) (tb:TS):TS:=fun D σ H=> ∃ W:Nat->St->Hp->Prop,(∃ m,W m σ H)/\ ∀ m σ H,W m σ H->
 c σ H fun b H1=>if b=true then ∃ N:St->Hp->Prop,(∀ σ' H',N σ' H'-> ∃ m',m'<m/\W m' σ' H')/\tb {D with nx:=N,ct:=N,bk:=D.nx} σ H1 else D.nx σ H1
theorem zmn {c:Expr} {body:List Stmt} {tc:TT} {tb:TS} (hp:PassesOwn (model X.prog X.w) X.A X.env X.xe) (hc:PT X c tc) (hb:PSs X body tb):PS X (.While c body [] pos) (zst tc tb):=by
 intro pins s σ H D I h
 obtain ⟨W,⟨m0,w0⟩,turn⟩:=h
 refine wpAny_While (codeAny_whileLoop (fun n s'=> ∃ σ' H',Inv X pins σ' H' s'/\W n σ' H') ?_ m0 ⟨σ,H,I,w0⟩)
 rintro n s1 ⟨σ1,H1,I1,w1⟩
 refine wpAny_passesOwn hp (thn (hc pins s1 σ1 H1 _ I1 (turn n σ1 H1 w1)) fun b s2 ⟨H2,I2,q2⟩=> ?_)
 cases b with
 | true=>
  obtain ⟨N,hN,q2⟩:=q2
  rw [qa4 rfl]
  refine wpAny_passesOwn hp (thn (hb pins s2 σ1 H2 _ I2 q2) fun f s3 q3=> ?_)
  cases f with
  | next=>
   obtain ⟨σ3,H3,I3,n3⟩:=q3
   obtain ⟨m',hm,w3⟩:=hN σ3 H3 n3
   exact ⟨m',hm,σ3,H3,I3,w3⟩
  | cont=>
   obtain ⟨σ3,H3,I3,n3⟩:=q3
   obtain ⟨m',hm,w3⟩:=hN σ3 H3 n3
   exact ⟨m',hm,σ3,H3,I3,w3⟩
  | brk=>exact q3
  | ret v=>exact q3
 | false=>
  rw [qa5 Bool.false_ne_true]
  exact wpAny_execs_nil ⟨σ1,H2,I2,q2⟩
end
structure It where
 go:Nat->Hp->Prop
 yld:Nat->Hp->V->Hp->Prop
 stop:Nat->Hp->Prop
def zfN (X:Cx) (pins:List (Addr×Obj)) (H:Hp) (b:Addr):Prop:=
 H b=none/\b≠X.env.locals/\b∉X.fs/\(b∈X.ex\/X.s₀.heap.objs.size<=b)/\(∀ x c,X.env.cells.lookup x=some c->c≠b)/\ ∀ p∈X.pn++pins,p.1≠b
theorem Inv.fpOk {X:Cx} {pins:List (Addr×Obj)} {σ:St} {H H':Hp} {s:Shared} {b:Addr} (I:Inv X pins σ H s) (hb:s.heap.objs.size<=b) (hn:H' b=none):zfN X pins H' b:=by
 refine ⟨hn,Nat.ne_of_gt (qaw I.lt hb),I.nofs hb,.inr (qaS I.sz hb),fun x c e z=> ?_,fun p hp z=> ?_⟩
 ·obtain ⟨v,q⟩:=I.cell x c e
  exact absurd (qaw q.lt (by rw [z];exact hb)) (qaN _)
 ·exact absurd (qaw (qaQ (I.pin p hp).1) (by rw [z];exact hb)) (qaN _)
structure zlC (P:Program) (w:World) (K:W.Frag) (tg:Expr) (J:It) (fp:List Addr) (it:Addr) (tn:Nat->Heap->Prop):Prop where
 mem:it∈fp
 obj: ∀ i h,tn i h-> ∀ b∈fp, ∃ o,h.get? b=some o/\ ∀ v,o.data≠ .cell v
 keep: ∀ i h h',tn i h->(∀ b∈fp, ∀ o,h.get? b=some o->h'.get? b=some o)->tn i h'
 item: ∀ (X:Cx),X.prog=P->X.w=w->X.K=K-> ∀ (i:Nat) (pins:List (Addr×Obj)) (s:Shared) (σ:St) (H:Hp) (E:Value->Shared->Prop),Inv X pins σ H s->(∀ b∈fp,zfN X pins H b)->tn i s.heap->J.go i H->
  wpAny (model P w) X.A (pyNext (.ref it)) (fun r s1=> ∃ u,r=some u/\
    wpAny (model P w) X.A (letOwnedTupleGo tg (.ref it) u) (fun _ s2=> ∃ x H',Inv X pins σ H' s2/\zby x u/\J.yld i H x H'/\tn (i+1) s2.heap/\ ∀ b∈fp,H' b=none) E s1) E s
 done: ∀ (X:Cx),X.prog=P->X.w=w->X.K=K-> ∀ (i:Nat) (pins:List (Addr×Obj)) (s:Shared) (σ:St) (H:Hp) (E:Value->Shared->Prop),Inv X pins σ H s->(∀ b∈fp,zfN X pins H b)->tn i s.heap->J.stop i H->
  wpAny (model P w) X.A (pyNext (.ref it)) (fun r s1=>r=none/\Inv X pins σ H s1) E s
 self: ∀ (A:Around) (i:Nat) (s:Shared) (Q:Value->Shared->Prop) (E:Value->Shared->Prop),tn i s.heap->Q (.ref it) s->wpAny (model P w) A (pyIter (.ref it)) Q E s
noncomputable abbrev TI:=St->Hp->(It->Hp->Prop)->Prop
def PIE (X:Cx) (pins:List (Addr×Obj)) (σ:St) (tg:Expr) (R:It->Hp->Prop) (itv:Value) (s2:Shared):Prop:=
 ∃ (it:Addr) (fp:List Addr) (tn:Nat->Heap->Prop) (J:It) (H':Hp),itv= .ref it/\Inv X pins σ H' s2/\zlC X.prog X.w X.K tg J fp it tn/\tn 0 s2.heap/\(∀ b∈fp,zfN X pins H' b)/\R J H'
def PI (X:Cx) (tg iter:Expr) (wi:TI):Prop:=
 ∀ (pins:List (Addr×Obj)) (s:Shared) (σ:St) (H:Hp) (R:It->Hp->Prop),Inv X pins σ H s->wi σ H R->
  wpAny (model X.prog X.w) X.A (eval iter X.env) (fun v s1=>wpAny (model X.prog X.w) X.A (pyIter v) (PIE X pins σ tg R) X.xe s1) X.xe s
theorem zod {M:Model} {A:Around} {E:Value->Shared->Prop} {s:Shared} {tg:Expr} {it:Addr} {u:Value} {o:Obj} {n:String} {vs:Array Value} {Q:Unit->Shared->Prop} (ho:s.heap.get? it=some o) (hc:o.cls= .type n) (hd:o.data= .fields vs)
  (hn:["enumerate","zip","dict_itemiterator","dict_reverseitemiterator","odict_iterator","itertools.zip_longest","itertools.pairwise"].contains n=false) (hQ:Q () s):wpAny M A (letOwnedTupleGo tg (.ref it) u) Q E s:=by
 unfold letOwnedTupleGo
 cases tg<;>first
  | exact qaX hQ
  | (cases u<;>first
      | exact qaX hQ
      | (refine qaW (wpAny_load ho ?_)
         rw [hc,hd]
         show wpAny M A (if (["enumerate","zip","dict_itemiterator","dict_reverseitemiterator","odict_iterator","itertools.zip_longest","itertools.pairwise"].contains n && vs[0]? == some (rawInt _))=true then _ else _) Q E s
         rw [qa5 (by intro h;rw [hn,Bool.false_and] at h;cases h)]
         exact qaX hQ))
noncomputable def Itl (K:W.Frag) (a:Addr):It:=
 ⟨fun i H=> ∃ xs x,SqL K H a xs/\xs[i]? = some x,fun i H x H'=>H'=H/\ ∀ xs,SqL K H a xs->xs[i]? = some x,fun i H=> ∃ xs,SqL K H a xs/\xs.length<=i⟩
noncomputable def Itt (K:W.Frag) (a:Addr):It:=
 ⟨fun i H=> ∃ xs x,SqT K H a xs/\xs[i]? = some x,fun i H x H'=>H'=H/\ ∀ xs,SqT K H a xs->xs[i]? = some x,fun i H=> ∃ xs,SqT K H a xs/\xs.length<=i⟩
noncomputable def Itr (lo:Int) (n:Nat):It:=⟨fun i _=>i<n,fun i H x H'=>H'=H/\x= .int (lo+i),fun i _=>n<=i⟩
theorem zgk.keep {A:Around} {H H':Hp} (x:zgk A H) (k: ∀ b o u,H b=some (.frz o u)->H' b=some (.frz o u)):zgk A H':=by
 rcases x with x | ⟨a,o,cls,head,vs,x1,x2,x3⟩
 ·exact .inl x
 ·exact .inr ⟨a,o,cls,head,vs,x1,k _ _ _ x2,x3⟩
theorem zgk.at_ {A:Around} {P:Program} {w:World} {H:Hp} {h:Heap} (x:zgk A H) (ok:HOk P w H h):L3.zf9 A h:=by
 rcases x with x | ⟨a,o,cls,head,vs,x1,x2,x3⟩
 ·exact .inl x
 ·exact .inr ⟨a,cls,head,x1,o,vs,(ok a _ x2).1,x3⟩
theorem Inv.handA {X:Cx} {pins:List (Addr×Obj)} {σ:St} {H:Hp} {s:Shared} (I:Inv X pins σ H s):zgk X.A H:=I.ok.hx.keep I.base.frzs
theorem Inv.hand {X:Cx} {pins:List (Addr×Obj)} {σ:St} {H:Hp} {s:Shared} (I:Inv X pins σ H s):L3.zf9 X.A s.heap:=I.handA.at_ I.hok
theorem zj1 {P:Program} {w:World} {K:W.Frag} {tg:Expr} (a it:Addr):zlC P w K tg (Itl K a) [it] it (fun i h=>h.IsListIter it a i) where
 mem:=by simp
 obj:=fun i h st b hb=>by
  have e:b=it:=by simpa using hb
  subst e
  obtain ⟨o,e,c,d⟩:=st
  exact ⟨o,e,fun v z=>by rw [d] at z;cases z⟩
 keep:=fun i h h' st k=>st.at fun o e=>k it (by simp) o e
 item:=by
  intro X hP hw hK i pins s σ H E I hf st hg
  subst hP hw hK
  obtain ⟨xs,x,hq,hx⟩:=hg
  obtain ⟨its,rv,p,hz⟩:=I.list hq
  obtain ⟨u,hu,ru⟩:=rv.get hx
  obtain ⟨f0,f1,f2,f3,f4,f5⟩:=hf it (by simp)
  refine wpAny_pyNext_list_item st p.isList (x:=u) (by simpa using hu) fun h' st' sb=> ?_
  have I1:Inv X pins σ H {s with heap:=h'}:=I.turned (t':=s.toks) (fun b o hb e=>(sb.2 b hb).trans e) f0 f1 f3 f4 f5
  obtain ⟨o,e,c,d⟩:=id st'
  exact ⟨u,rfl,zod (s:={s with heap:=h'}) e c d (by decide) ⟨x,H,I1,ru,⟨rfl,fun ys hy=>by rw [I.list_inj hy hq];exact hx⟩,st',fun b hb=>(hf b hb).1⟩⟩
 done:=by
  intro X hP hw hK i pins s σ H E I hf st hg
  subst hP hw hK
  obtain ⟨xs,hq,hx⟩:=hg
  obtain ⟨its,rv,p,hz⟩:=I.list hq
  obtain ⟨f0,f1,f2,f3,f4,f5⟩:=hf it (by simp)
  have hl:=rv.length
  exact L3.zie I.hand st p.isList (by simp;omega) fun h' eb=>⟨rfl,I.turned (t':=s.toks) (fun b o hb e=>eb b o hb e) f0 f1 f3 f4 f5⟩
 self:=fun _ _ _ _ _ st h=>wpAny_pyIter_listiter st h
theorem ziQ {P:Program} {w:World} {K:W.Frag} {tg:Expr} (a it:Addr):zlC P w K tg (Itt K a) [it] it (fun i h=>h.IsTupleIter it a i) where
 mem:=by simp
 obj:=fun i h st b hb=>by
  have e:b=it:=by simpa using hb
  subst e
  obtain ⟨o,e,c,d⟩:=st
  exact ⟨o,e,fun v z=>by rw [d] at z;cases z⟩
 keep:=fun i h h' st k=>st.at fun o e=>k it (by simp) o e
 item:=by
  intro X hP hw hK i pins s σ H E I hf st hg
  subst hP hw hK
  obtain ⟨xs,x,hq,hx⟩:=hg
  obtain ⟨its,rv,p,hz⟩:=I.tuple hq
  obtain ⟨u,hu,ru⟩:=rv.get hx
  obtain ⟨f0,f1,f2,f3,f4,f5⟩:=hf it (by simp)
  refine wpAny_pyNext_tuple_item st (show s.heap.IsTuple a its.toArray from p) (x:=u) (by simpa using hu) fun h' st' sb=> ?_
  have I1:Inv X pins σ H {s with heap:=h'}:=I.turned (t':=s.toks) (fun b o hb e=>(sb.2 b hb).trans e) f0 f1 f3 f4 f5
  obtain ⟨o,e,c,d⟩:=id st'
  exact ⟨u,rfl,zod (s:={s with heap:=h'}) e c d (by decide) ⟨x,H,I1,ru,⟨rfl,fun ys hy=>by rw [I.tuple_inj hy hq];exact hx⟩,st',fun b hb=>(hf b hb).1⟩⟩
 done:=by
  intro X hP hw hK i pins s σ H E I hf st hg
  subst hP hw hK
  obtain ⟨xs,hq,hx⟩:=hg
  obtain ⟨its,rv,p,hz⟩:=I.tuple hq
  obtain ⟨f0,f1,f2,f3,f4,f5⟩:=hf it (by simp)
  have hl:=rv.length
  exact L3.zkR I.hand st (show s.heap.IsTuple a its.toArray from p) (by simp;omega) fun h' eb=>⟨rfl,I.turned (t':=s.toks) (fun b o hb e=>eb b o hb e) f0 f1 f3 f4 f5⟩
 self:=fun _ _ _ _ _ st h=>wpAny_pyIter_tupleiter st h
theorem ziU {P:Program} {w:World} {K:W.Frag} {tg:Expr} (it:Addr) (lo:Int) (n:Nat):zlC P w K tg (Itr lo n) [it] it (fun i h=>IsRangeIter h it (lo+(i:Nat)*1) ((n:Int) - (i:Nat)) 1) where
 mem:=by simp
 obj:=fun i h st b hb=>by
  have e:b=it:=by simpa using hb
  subst e
  exact ⟨_,st,fun v z=>by
    have z':Data.fields _=Data.cell v:=z
    cases z'⟩
 keep:=fun i h h' st k=>k it (by simp) _ st
 item:=by
  intro X hP hw hK i pins s σ H E I hf st hg
  subst hP hw hK
  obtain ⟨f0,f1,f2,f3,f4,f5⟩:=hf it (by simp)
  refine wpAny_pyNext_range_item st (by have:i<n:=hg;omega) fun h' st' kk=> ?_
  have e1:lo+(i:Nat)*1+1=lo+((i+1:Nat):Int)*1:=by omega
  have e2:(n:Int) - (i:Nat) - 1=(n:Int) - ((i+1:Nat):Int):=by omega
  rw [e1,e2] at st'
  have I1:Inv X pins σ H {s with heap:=h',toks:=s.toks+1}:=I.turned (fun b o hb e=>(kk.2 b hb).trans e) f0 f1 f3 f4 f5
  refine ⟨_,rfl,zod (s:={s with heap:=h',toks:=s.toks+1}) (n:="range_iterator") st' rfl rfl (by decide) ⟨.int (lo+i),H,I1,⟨s.toks,?_⟩,⟨rfl,rfl⟩,st',fun b hb=>(hf b hb).1⟩⟩
  rw [Int.mul_one]
 done:=by
  intro X hP hw hK i pins s σ H E I hf st hg
  subst hP hw hK
  obtain ⟨f0,f1,f2,f3,f4,f5⟩:=hf it (by simp)
  exact L3.zj0 I.hand st (by have:n<=i:=hg;omega) fun h' eb=>⟨rfl,I.turned (t':=s.toks) (fun b o hb e=>eb b o hb e) f0 f1 f3 f4 f5⟩
 self:=fun _ _ _ _ _ st h=>wpAny_pyIter_rangeiter st h
section
variable {X:Cx} {tg:Expr}
theorem zlU {pins:List (Addr×Obj)} {σ:St} {H:Hp} {s:Shared} {R:It->Hp->Prop} {E:Value->Shared->Prop} {lo hi:Int} {t u v:Tok} {tk:Nat} (I:Inv X pins σ H s) (h1: -(2^62)<=lo) (h2:lo<2^62) (h3: -(2^62)<=hi) (h4:hi<2^62)
  (q:R (Itr lo (hi - lo).toNat) H):wpAny (model X.prog X.w) X.A (pyIter (.ref s.heap.objs.size)) (PIE X pins σ tg R) E {s with heap:=s.heap.push {cls:= .type "range",data:= .fields #[.int lo t,.int hi u,.int 1 v]},toks:=tk}:=by
 refine wpAny_pyIter_range (IsRange.new ..) (small_one h1 h2 h3 h4) ?_
 have I1:Inv X pins σ H {s with heap:=s.heap.push {cls:= .type "range",data:= .fields #[.int lo t,.int hi u,.int 1 v]},toks:=tk}:=I.kept fun b o e=>qag _ e
 refine ⟨(s.heap.push {cls:= .type "range",data:= .fields #[.int lo t,.int hi u,.int 1 v]}).objs.size,[(s.heap.push {cls:= .type "range",data:= .fields #[.int lo t,.int hi u,.int 1 v]}).objs.size],_,_,H,rfl,
   I1.kept (t':=tk) fun b o e=>qag _ e,ziU _ lo (hi - lo).toNat,?_,fun b hb=> ?_,q⟩
 ·have e1:lo+((0:Nat):Int)*1=lo:=by simp
  have e2:(((hi - lo).toNat:Nat):Int) - ((0:Nat):Int)=Builtin.Range.rangeSize lo hi 1:=by rw [rangeSize_one];split<;>omega
  show IsRangeIter _ _ (lo+((0:Nat):Int)*1) ((((hi - lo).toNat:Nat):Int) - ((0:Nat):Int)) 1
  rw [e1,e2]
  exact qar _ rfl
 ·have e:b=(s.heap.push {cls:= .type "range",data:= .fields #[.int lo t,.int hi u,.int 1 v]}).objs.size:=by simpa using hb
  subst e
  exact I1.fpOk (qaV _) (I1.hok.fresh (qaV _))
noncomputable def ztf (ta:TA):TI:=fun σ H R=>ta σ H fun vs H1=> ∃ j:Int,vs=[.int j]/\ -(2^62)<=j/\j<2^62/\R (Itr 0 j.toNat) H1
theorem zj8 {a:Expr} {ta:TA} {p pos:Pos} (hg:Gl X "range") (hm:X.mg "range"=none) (ha:PA X [a] ta) (hs:starEach [a] X.env=[(false,eval a X.env)]:=by rfl):PI X tg (.Call (.Name "range" p) [a] [] pos) (ztf ta):=by
 intro pins s σ H R I h
 refine Call_ (zd4 I hg hm boot_range (PyProof.Rows.callWith_type1 (thn (ha pos pins s σ H _ I h) fun us s1 ⟨vs,H1,I1,r1,q1⟩=> ?_) hs rfl))
 obtain ⟨j,e,q1,q2,q⟩:=q1
 subst e
 cases r1 with
 | cons r rr=>
  cases rr
  obtain ⟨t,rfl⟩:=r
  exact call_range_1 (zlU I1 (by omega) (by omega) q1 q2 (by simpa using q))
noncomputable def zuu (wi:TI) (g:TG) (tb:TS):TS:=fun D σ H=>wi σ H fun J H1=> ∃ W:Nat->Nat->St->Hp->Prop,(∃ m,W 0 m σ H1)/\ ∀ i m σ H,W i m σ H->
 (J.stop i H/\D.nx σ H)\/(J.go i H/\ ∃ N:St->Hp->Prop,(∀ σ' H',N σ' H'-> ∃ m',m'<m/\W (i+1) m' σ' H')/\ ∀ x H',J.yld i H x H'->g x σ H' fun σ2 H2=>tb {D with nx:=N,ct:=N,bk:=D.nx} σ2 H2)
noncomputable def zgf (fp:List Addr) (h:Heap):List (Addr×Obj):=fp.filterMap fun b=>(h.get? b).map fun o=>(b,o)
theorem zc2 {fp:List Addr} {h:Heap} {b:Addr} {o:Obj} (hb:b∈fp) (e:h.get? b=some o):(b,o)∈zgf fp h:=List.mem_filterMap.mpr ⟨b,hb,by rw [e];rfl⟩
theorem zkX {fp:List Addr} {h:Heap} {p:Addr×Obj} (hp:p∈zgf fp h):p.1∈fp/\h.get? p.1=some p.2:=by
 obtain ⟨b,hb,e⟩:=List.mem_filterMap.mp hp
 cases q:h.get? b with
 | none=>rw [q] at e;cases e
 | some o=>
  rw [q] at e
  have e':(b,o)=p:=Option.some.inj e
  subst e'
  exact ⟨hb,q⟩
theorem Inv.pinned {pins:List (Addr×Obj)} {σ:St} {H:Hp} {s:Shared} {fp:List Addr} (I:Inv X pins σ H s) (hf: ∀ b∈fp,zfN X pins H b) (ho: ∀ b∈fp, ∃ o,s.heap.get? b=some o/\ ∀ v,o.data≠ .cell v):Inv X (pins++zgf fp s.heap) σ H s:=
 I.pins_of fun p hp=>(qaK.mp hp).elim (fun z=>I.pin p (qak _ z)) fun z=>by
  obtain ⟨hb,e⟩:=zkX z
  obtain ⟨f0,f1,f2,_⟩:=hf p.1 hb
  obtain ⟨o,e',d⟩:=ho p.1 hb
  rw [e] at e';cases e'
  exact ⟨e,f0,f1,f2,d⟩
theorem Inv.unpinned {pins pl:List (Addr×Obj)} {σ:St} {H:Hp} {s:Shared} (I:Inv X (pins++pl) σ H s):Inv X pins σ H s:=I.pins_of fun p hp=>I.pin p (qak _ (List.mem_append_left _ hp))
theorem zsh {iter:Expr} {body:List Stmt} {wi:TI} {g:TG} {tb:TS} {pos:Pos} (hp:PassesOwn (model X.prog X.w) X.A X.env X.xe) (hc:X.calm=true) (hi:PI X tg iter wi) (hg:PG X tg g) (hb:PSs X body tb)
  (hs: ∀ x,foldedSetIterable iter X.env x=pure x:=by intro _;rfl):PS X (.For tg iter body [] pos) (zuu wi g tb):=by
 intro pins s σ H D I h
 refine wpAny_For (thn (hi pins s σ H _ I h) fun v s1 h1=>thn h1 fun itv s2 h2=> ?_) hs
 obtain ⟨it,fp,tn,J,H2,e,I2,T,st2,f2,W,⟨m0,w0⟩,turn⟩:=h2
 subst e
 have stat: ∀ {H':Hp},(∀ b∈fp,H' b=none)-> ∀ b∈fp,zfN X pins H' b:=fun hn b hb=>⟨hn b hb,(f2 b hb).2⟩
 refine codeAny_forLoop_any (fun n s'=> ∃ i σ' H',Inv X pins σ' H' s'/\tn i s'.heap/\(∀ b∈fp,H' b=none)/\W i n σ' H') ?_ m0 ⟨0,σ,H2,I2,st2,fun b hb=>(f2 b hb).1,w0⟩
 rintro n s3 ⟨i,σ3,H3,I3,st3,fr3,w3⟩
 rcases turn i n σ3 H3 w3 with ⟨stop,qn⟩ | ⟨go,N,hN,step⟩
 ·refine wpAny_passesOwn hp (thn (T.done X rfl rfl rfl i pins s3 σ3 H3 X.xe I3 (stat fr3) st3 stop) fun r s4 ⟨hr,I4⟩=> ?_)
  subst hr
  exact wpAny_execs_nil ⟨σ3,H3,I4,qn⟩
 ·refine wpAny_passesOwn hp (thn (T.item X rfl rfl rfl i pins s3 σ3 H3 X.xe I3 (stat fr3) st3 go) fun r s4 ⟨u,hr,h4⟩=> ?_)
  subst hr
  refine wpAny_passesOwn hp (thn h4 fun _ s5 ⟨x,H5,I5,r5,y5,st5,fr5⟩=> ?_)
  have I5':=I5.pinned (stat fr5) (T.obj _ _ st5)
  refine wpAny_passesOwn hp (thn (hg _ s5 σ3 H5 x u _ I5' r5 (step x H5 y5)) fun _ s6 ⟨σ6,H6,I6,q6⟩=> ?_)
  refine wpAny_passesOwn hp (thn (hb _ s6 σ6 H6 _ I6 q6) fun f s7 q7=> ?_)
  have again: ∀ {σ7:St} {H7:Hp},Inv X (pins++zgf fp s5.heap) σ7 H7 s7->N σ7 H7-> ∃ m,m<n/\ ∃ i σ' H',Inv X pins σ' H' s7/\tn i s7.heap/\(∀ b∈fp,H' b=none)/\W i m σ' H':=fun {σ7 H7} I7 n7=>by
   obtain ⟨m',hm,w7⟩:=hN σ7 H7 n7
   refine ⟨m',hm,i+1,σ7,H7,I7.unpinned,T.keep _ _ _ st5 fun b hb o e=>(I7.pin (b,o) (qak _ (qak _ (zc2 hb e)))).1,fun b hb=> ?_,w7⟩
   obtain ⟨o,e,d⟩:=T.obj _ _ st5 b hb
   exact (I7.pin (b,o) (qak _ (qak _ (zc2 hb e)))).2.1
  cases f with
  | next=>obtain ⟨σ7,H7,I7,n7⟩:=q7;exact again I7 n7
  | cont=>obtain ⟨σ7,H7,I7,n7⟩:=q7;exact again I7 n7
  | brk=>obtain ⟨σ7,H7,I7,q7⟩:=q7;exact ⟨σ7,H7,I7.unpinned,q7⟩
  | ret v=>obtain ⟨x7,σ7,H7,I7,r7,q7⟩:=q7;exact ⟨x7,σ7,H7,I7.unpinned,r7,q7⟩
end
noncomputable abbrev R2:=V->V->Hp->VK->Prop
def OpR (X:Cx) (f:Value->Value->Sem Value) (r:R2):Prop:=
 ∀ (pins:List (Addr×Obj)) (s:Shared) (σ:St) (H:Hp) (x y:V) (v u:Value) (Q:VK),Inv X pins σ H s->zby x v->zby y u->r x y H Q->
  wpAny (model X.prog X.w) X.A (f v u) (EP X pins σ Q) X.xe s
def UnR (X:Cx) (f:Value->Sem Value) (r:V->Hp->VK->Prop):Prop:=
 ∀ (pins:List (Addr×Obj)) (s:Shared) (σ:St) (H:Hp) (x:V) (v:Value) (Q:VK),Inv X pins σ H s->zby x v->r x H Q->
  wpAny (model X.prog X.w) X.A (f v) (EP X pins σ Q) X.xe s
def zaZ (X:Cx) (f:Value) (r:List V->Hp->VK->Prop):Prop:=
 ∀ (pins:List (Addr×Obj)) (s:Shared) (σ:St) (H:Hp) (xs:List V) (us:List Value) (Q:VK),Inv X pins σ H s->zbm xs us->r xs H Q->
  wpAny (model X.prog X.w) X.A (call f us) (EP X pins σ Q) X.xe s
noncomputable def tOp (r:R2) (ta tb:TE):TE:=fun σ H Q=>ta σ H fun x H1=>tb σ H1 fun y H2=>r x y H2 Q
noncomputable def tUn (r:V->Hp->VK->Prop) (ta:TE):TE:=fun σ H Q=>ta σ H fun x H1=>r x H1 Q
noncomputable def rI (C:Int->Int->Prop) (g:Int->Int->V):R2:=fun x y H Q=> ∃ i j,x= .int i/\y= .int j/\C i j/\Q (g i j) H
noncomputable def rI0 (g:Int->Int->V):R2:=fun x y H Q=> ∃ i j,x= .int i/\y= .int j/\Q (g i j) H
noncomputable def rU (g:Int->V):V->Hp->VK->Prop:=fun x H Q=> ∃ i,x= .int i/\Q (g i) H
section
variable {X:Cx} {a b c:Expr} {ta tb tc:TE} {pos:Pos}
theorem ztb (ha:PE X a ta) (hb:PE X b tb) {pins:List (Addr×Obj)} {s:Shared} {σ:St} {H:Hp} {R:V->V->Hp->Prop} (I:Inv X pins σ H s)
  (h:ta σ H fun x H1=>tb σ H1 fun y H2=>R x y H2) {Q:Value->Shared->Prop} {f:Value->Value->Sem Value}
  (hf: ∀ v u s2 x y H2,Inv X pins σ H2 s2->zby x v->zby y u->R x y H2->wpAny (model X.prog X.w) X.A (f v u) Q X.xe s2):
  wpAny (model X.prog X.w) X.A (eval a X.env) (fun v s₁=>wpAny (model X.prog X.w) X.A (eval b X.env) (fun u s₂=>wpAny (model X.prog X.w) X.A (f v u) Q X.xe s₂) X.xe s₁) X.xe s:=by
 refine thn (ha pins s σ H _ I h) fun v s1 ⟨x,H1,I1,r1,q1⟩=> ?_
 refine thn (hb pins s1 σ H1 _ I1 q1) fun u s2 ⟨y,H2,I2,r2,q2⟩=> ?_
 exact hf v u s2 x y H2 I2 r1 r2 q2
theorem zsK {op:Operator} {r:R2} (ho:OpR X (binaryOp op) r) (ha:PE X a ta) (hb:PE X b tb):PE X (.BinOp a op b pos) (tOp r ta tb):=by
 intro pins s σ H Q I h
 exact wpAny_BinOp (ztb ha hb I h fun v u s2 x y H2 I2 rx ry q=>ho pins s2 σ H2 x y v u Q I2 rx ry q)
theorem zs9 {op:UnaryOp} {r:V->Hp->VK->Prop} (ho:UnR X (unaryOp op) r) (ha:PE X a ta):PE X (.UnaryOp op a pos) (tUn r ta):=by
 intro pins s σ H Q I h
 exact UnaryOp_ (thn (ha pins s σ H _ I h) fun v s1 ⟨x,H1,I1,r1,q1⟩=>ho pins s1 σ H1 x v Q I1 r1 q1)
theorem opI {f:Value->Value->Sem Value} {C:Int->Int->Prop} {g:Int->Int->Int}
  (rule: ∀ (i j:Int) (t u:Tok) (s:Shared) (Q:Value->Shared->Prop) (E:Value->Shared->Prop),C i j->Q (.int (g i j) s.toks) {s with toks:=s.toks+1}->wpAny (model X.prog X.w) X.A (f (.int i t) (.int j u)) Q E s):
  OpR X f (rI C fun i j=> .int (g i j)):=by
 intro pins s σ H x y v u Q I rx ry h
 obtain ⟨i,j,rfl,rfl,hc,q⟩:=h
 obtain ⟨t,rfl⟩:=rx
 obtain ⟨t',rfl⟩:=ry
 exact rule i j t t' s _ _ hc ⟨.int (g i j),H,I.tok _,⟨_,rfl⟩,q⟩
theorem zsS {f:Value->Value->Sem Value} {g:Int->Int->Int}
  (rule: ∀ (i j:Int) (t u:Tok) (s:Shared) (Q:Value->Shared->Prop) (E:Value->Shared->Prop),Q (.int (g i j) s.toks) {s with toks:=s.toks+1}->wpAny (model X.prog X.w) X.A (f (.int i t) (.int j u)) Q E s):
  OpR X f (rI0 fun i j=> .int (g i j)):=by
 intro pins s σ H x y v u Q I rx ry h
 obtain ⟨i,j,rfl,rfl,q⟩:=h
 obtain ⟨t,rfl⟩:=rx
 obtain ⟨t',rfl⟩:=ry
 exact rule i j t t' s _ _ ⟨.int (g i j),H,I.tok _,⟨_,rfl⟩,q⟩
theorem ztM {f:Value->Value->Sem Value} {g:Int->Int->Bool}
  (rule: ∀ (i j:Int) (t u:Tok) (s:Shared) (Q:Value->Shared->Prop) (E:Value->Shared->Prop),Q (.bool (g i j)) s->wpAny (model X.prog X.w) X.A (f (.int i t) (.int j u)) Q E s):
  OpR X f (rI0 fun i j=> .bl (g i j)):=by
 intro pins s σ H x y v u Q I rx ry h
 obtain ⟨i,j,rfl,rfl,q⟩:=h
 obtain ⟨t,rfl⟩:=rx
 obtain ⟨t',rfl⟩:=ry
 exact rule i j t t' s _ _ ⟨.bl (g i j),H,I,rfl,q⟩
def zsw (i j:Int):Prop:=0<=j/\j<=1000000/\i.natAbs<2^64
def zsV (i j:Int):Prop:=(-(2^64)<i/\i<2^64)\/(-(2^64)<j/\j<2^64)
theorem zsV.ok {i j:Int} (h:zsV i j):IntMulOk i j:=by
 rcases h with ⟨h1,h2⟩ | ⟨h1,h2⟩
 ·exact .of_left (intBits_le_64 h1 h2)
 ·exact .of_right (intBits_le_64 h1 h2)
theorem two_pow_nn (k:Nat):(0:Int)<=2^k:=by
 rw [two_pow_cast]
 exact Int.natCast_nonneg _
theorem zrI:OpR X (binaryOp .Add) (rI0 fun i j=> .int (i+j)):=zsS fun _ _ _ _ _ _ _ q=>add_int q
theorem zqO:OpR X (binaryOp .Sub) (rI0 fun i j=> .int (i - j)):=zsS fun _ _ _ _ _ _ _ q=>sub_int q
theorem zrf:OpR X (binaryOp .Mult) (rI zsV fun i j=> .int (i*j)):=opI fun _ _ _ _ _ _ _ hc q=>mul_int q hc.ok
theorem zqC:OpR X (binaryOp .Mod) (rI (fun _ j=>0<j) fun i j=> .int (i % j)):=opI fun i j _ _ _ _ _ hc q=>by
 have h1:(0:Int)<j:=hc
 exact mod_int' (by omega) (by rw [Int.fmod_eq_emod_of_nonneg i (by omega)];exact q)
theorem zr6:OpR X (binaryOp .Pow) (rI zsw fun i j=> .int (i^j.toNat)):=opI fun _ _ _ _ _ _ _ hc q=>pow_int_small hc.1 hc.2.1 hc.2.2 q
theorem zqX:OpR X (binaryOp .LShift) (rI zsw fun i j=> .int (i*2^j.toNat)):=opI fun _ _ _ _ _ _ _ hc q=>lshift_int_small hc.1 hc.2.1 hc.2.2 q
theorem zqr:OpR X (binaryOp .RShift) (rI (fun _ j=>0<=j) fun i j=> .int (i / 2^j.toNat)):=opI fun i j _ _ _ _ _ hc q=>
 rshift_int hc (by rw [Int.fdiv_eq_ediv_of_nonneg i (two_pow_nn _)];exact q)
theorem zrh:OpR X (binaryOp .BitAnd) (rI0 fun i j=> .int (Builtin.bitAnd i j)):=zsS fun _ _ _ _ _ _ _ q=>and_int q
theorem unI {f:Value->Sem Value} {g:Int->Int}
  (rule: ∀ (i:Int) (t:Tok) (s:Shared) (Q:Value->Shared->Prop) (E:Value->Shared->Prop),Q (.int (g i) s.toks) {s with toks:=s.toks+1}->wpAny (model X.prog X.w) X.A (f (.int i t)) Q E s):
  UnR X f (rU fun i=> .int (g i)):=by
 intro pins s σ H x v Q I rx h
 obtain ⟨i,rfl,q⟩:=h
 obtain ⟨t,rfl⟩:=rx
 exact rule i t s _ _ ⟨.int (g i),H,I.tok _,⟨_,rfl⟩,q⟩
theorem zrQ:UnR X (unaryOp .USub) (rU fun i=> .int (-i)):=unI fun _ _ _ _ _ q=>neg_int q
end
section
variable {X:Cx} {a b c:Expr} {ta tb tc:TE} {pos:Pos}
theorem zgK {pins:List (Addr×Obj)} {σ:St} {H:Hp} {s:Shared} {Q:VK} {k k':Bool} (I:Inv X pins σ H s) (q:Q (.bl k) H) (e:k=k'):EP X pins σ Q (.bool k') s:=by
 subst e
 exact ⟨.bl k,H,I,rfl,q⟩
theorem zsP:OpR X (compareOp .Lt) (rI0 fun i j=> .bl (decide (i<j))):=ztM fun _ _ _ _ _ _ _ q=>lt_int q
theorem zsW:OpR X (compareOp .Gt) (rI0 fun i j=> .bl (decide (j<i))):=ztM fun _ _ _ _ _ _ _ q=>gt_int q
theorem zsT:OpR X (compareOp .GtE) (rI0 fun i j=> .bl (decide (j<=i))):=ztM fun _ _ _ _ _ _ _ q=>ge_int q
theorem zm2:OpR X (compareOp .Is) (fun x y H Q=>y= .non/\Q (.bl (decide (x= .non))) H):=by
 intro pins s σ H x y v u Q I rx ry h
 obtain ⟨rfl,q⟩:=h
 cases ry
 refine is_none_gen (zgK I q ?_)
 cases x<;>first
  | (cases rx;rfl)
  | (obtain ⟨t,rfl⟩:=rx;rfl)
theorem OpR.or {f:Value->Value->Sem Value} {r r':R2} (h:OpR X f r) (h':OpR X f r'):OpR X f (fun x y H Q=>r x y H Q\/r' x y H Q):=by
 intro pins s σ H x y v u Q I rx ry q
 rcases q with q | q
 ·exact h pins s σ H x y v u Q I rx ry q
 ·exact h' pins s σ H x y v u Q I rx ry q
theorem zoC {op:CmpOp} {r:R2} (ho:OpR X (compareOp op) r) (ha:PE X a ta) (hb:PE X b tb) (hm:behindInMarks op b=false):PE X (.Compare a [op] [b] pos) (tOp r ta tb):=by
 intro pins s σ H Q I h
 exact wpAny_Compare1 (ztb ha hb I h fun v u s2 x y H2 I2 rx ry q=>ho pins s2 σ H2 x y v u Q I2 rx ry q) hm
noncomputable def ztg (t:TE):TT:=fun σ H Q=>t σ H fun x H'=> ∃ k,x= .bl k/\Q k H'
theorem znH {op:CmpOp} {r:R2} (ho:OpR X (compareOp op) r) (ha:PE X a ta) (hb:PE X b tb) (hm:behindInMarks op b=false):PT X (.Compare a [op] [b] pos) (ztg (tOp r ta tb)):=by
 intro pins s σ H Q I h
 refine wpAny_isTrue_Compare1 (thn (ha pins s σ H _ I h) fun v s1 ⟨x,H1,I1,r1,q1⟩=>thn (hb pins s1 σ H1 _ I1 q1) fun u s2 ⟨y,H2,I2,r2,q2⟩=>
   thn (ho pins s2 σ H2 x y v u _ I2 r1 r2 q2) fun c s3 ⟨z,H3,I3,r3,k,e,q3⟩=> ?_) hm
 subst e
 cases r3
 exact wpAny_truthy_bool ⟨H3,I3,q3⟩
theorem zh3:(sizeLine:Nat)<2^63:=by rw [sizeLine_eq];decide
theorem ziG:OpR X (binaryOp .Add) (fun x y H Q=> ∃ i j,x= .str i/\y= .str j/\i.length+j.length<=sizeLine/\Q (.str (i++j)) H):=by
 intro pins s σ H x y v u Q I rx ry h
 obtain ⟨i,j,rfl,rfl,hz,q⟩:=h
 obtain ⟨t,rfl⟩:=rx
 obtain ⟨t',rfl⟩:=ry
 exact add_str (fun t' tk=>⟨.str (i++j),H,I.tok _,⟨_,rfl⟩,q⟩) hz
theorem zef {x:V} {us:List Value} (r:zbm [x] us): ∃ u,us=[u]/\zby x u:=by
 cases r with
 | cons r1 r2=>cases r2;exact ⟨_,rfl,r1⟩
theorem zrZ {x y:V} {us:List Value} (r:zbm [x,y] us): ∃ u w',us=[u,w']/\zby x u/\zby y w':=by
 cases r with
 | cons r1 r2=>
  cases r2 with
  | cons r3 r4=>cases r4;exact ⟨_,_,rfl,r1,r3⟩
theorem zjt (hc:X.calm=true):zaZ X (.builtin "max") (fun xs H Q=> ∃ i j,xs=[.int i,.int j]/\Q (.int (if j>i then j else i)) H):=by
 intro pins s σ H xs us Q I r h
 obtain ⟨i,j,rfl,q⟩:=h
 obtain ⟨u,w',rfl,⟨t,rfl⟩,⟨t',rfl⟩⟩:=zrZ r
 refine max_two_ints (I.ok.hd hc) fun h' tk k=>⟨_,H,I.kept k,?_,q⟩
 by_cases hj:j>i
 ·rw [qa4 hj,qa4 hj];exact ⟨_,rfl⟩
 ·rw [qa5 hj,qa5 hj];exact ⟨_,rfl⟩
theorem zk6 (hc:X.calm=true):zaZ X (.builtin "min") (fun xs H Q=> ∃ i j,xs=[.int i,.int j]/\Q (.int (if j<i then j else i)) H):=by
 intro pins s σ H xs us Q I r h
 obtain ⟨i,j,rfl,q⟩:=h
 obtain ⟨u,w',rfl,⟨t,rfl⟩,⟨t',rfl⟩⟩:=zrZ r
 refine min_two_ints (I.ok.hd hc) fun h' tk k=>⟨_,H,I.kept k,?_,q⟩
 by_cases hj:j<i
 ·rw [qa4 hj,qa4 hj];exact ⟨_,rfl⟩
 ·rw [qa5 hj,qa5 hj];exact ⟨_,rfl⟩
theorem zjs:zaZ X (.type "int") (fun xs H Q=>(∃ i,xs=[.int i]/\Q (.int i) H)\/ ∃ k,xs=[.bl k]/\Q (.int (if k then 1 else 0)) H):=by
 intro pins s σ H xs us Q I r h
 rcases h with ⟨i,rfl,q⟩ | ⟨k,rfl,q⟩
 ·obtain ⟨u,rfl,t,rfl⟩:=zef r
  exact call_int_int ⟨.int i,H,I,⟨_,rfl⟩,q⟩
 ·obtain ⟨u,rfl,r1⟩:=zef r
  cases r1
  exact call_int_bool ⟨.int (if k then 1 else 0),H,I.tok _,⟨_,rfl⟩,q⟩
end
structure zt1 (h:Heap) (x dx C:Addr) (mA:Str->Option Value):Prop where
 obj:h.get? x=some (W.instObj C dx)
 ns:h.Ns1 dx mA
 ne:dx≠x
theorem zjm {h:Heap} {dx:Addr} {mA:Str->Option Value} (n:h.Ns1 dx mA): ∃ od,h.get? dx=some od/\ ∀ name,W.lookIn name od=some (mA name):=by
 obtain ⟨o,es,ep,ho,hd,hk,_,hm⟩:=n
 refine ⟨o,ho,fun name=> ?_⟩
 have e:=hm name
 unfold nsFind findBy at e
 rw [<- Array.find?_toList] at e
 unfold W.lookIn
 rw [hd]
 dsimp only
 split
 ·rename_i y q
  rw [q] at e
  exact congrArg some e
 ·rename_i q
  rw [q] at e
  have a:es.toList.any (·.refKey)=false:=by
   rw [List.any_eq_false]
   intro y hy
   obtain ⟨z,t,hkey⟩:=hk y (Array.mem_toList_iff.mp hy)
   simp [DictEntry.refKey,hkey]
  have a': ¬es.toList.any (·.refKey)=true:=by rw [a];exact Bool.false_ne_true
  rw [qa5 a']
  exact congrArg some e
theorem zt1.look {h:Heap} {x dx C:Addr} {mA:Str->Option Value} (I:zt1 h x dx C mA): ∃ od,W.InstAt h x (W.instObj C dx) C (some od)/\ ∀ name,W.lookIn name od=some (mA name):=
 let ⟨od,ho,hl⟩:=zjm I.ns
 ⟨od,⟨I.obj,rfl,rfl,ho⟩,hl⟩
section
variable {prog:Program} {w:World} {A:Around} {E:Value->Shared->Prop} {s:Shared} {K:W.Frag} {x dx C f:Addr} {mA:Str->Option Value} {name:Str} {v:Value}
end
section
variable {P:Program} {w:World} {H H':Hp} {h h':Heap} {a C dx:Addr} {fs fs':List (Str×V)}
theorem zoa (hok:HOk P w H h) (e:H a=some (.ins C dx fs)): ∃ mA,zt1 h a dx C mA/\(∀ f,ztL (fs.lookup f) (mA f))/\PySem.Within mA (fs.map (·.1))/\fs.length<=1000/\H dx=some (.own a):=by
 obtain ⟨d,z,ne,ob,mA,n,r,q⟩:=(show zbz P w H h a (.ins C dx fs) from hok a _ e)
 exact ⟨mA,⟨ob,n,ne⟩,r,q,z,d⟩
end
structure Cls (K:W.Frag) (C:Addr):Prop where
 pg:W.plainGet K C Str.empty=true
 hd:W.hasDictIn K C=true
 po:W.plainOver K C=true
 sa:W.findIn K (.ref C) "__setattr__"=some (some (.builtin "object.__setattr__"))
theorem Cls.get {K:W.Frag} {C:Addr} (c:Cls K C) (f:Str):W.plainGet K C f=true:=c.pg
structure Con (K:W.Frag) (C:Addr) (f:Str) (v:V) (u:Value):Prop where
 at_:W.findIn K (.ref C) f=some (some u)
 rel:zby v u
 get:W.specialIn K u "__get__"=some none
 cp:W.copiedNames.contains f=false
structure zu1 (K:W.Frag) (C:Addr) (m:Str) (f:Addr):Prop where
 at_:W.findIn K (.ref C) m=some (some (.ref f))
 fn:W.isFn K (.ref f)=true
 kp:W.keepIn K (.ref f)=true
section
variable {X:Cx} {pins:List (Addr×Obj)} {σ:St} {H:Hp} {s:Shared} {a C dx:Addr} {fs:List (Str×V)} {f:Str} {v:V} {A:Around} {E:Value->Shared->Prop}
end
section
variable {X:Cx} {o e value:Expr} {f:Str} {pos pos' tpos:Pos} {ta tv:TE}
end
section
variable {X:Cx} {pins:List (Addr×Obj)} {σ:St} {H:Hp} {s:Shared} {A:Around} {E:Value->Shared->Prop} {Q:Value->Shared->Prop} {c:Value} {b:Bool}
inductive zih (K:W.Frag) (H:Hp):V->Value->Prop where
 | non:zih K H .non (.type "NoneType")
 | bl (x:Bool):zih K H (.bl x) (.type "bool")
 | int (i:Int):zih K H (.int i) (.type "int")
 | str (x:Str):zih K H (.str x) (.type "str")
 | flt (x:UInt64):zih K H (.flt x) (.type "float")
 | lst {a:Addr} {xs:List V} (e:H a=some (.lst xs)):zih K H (.ref a) (.type "list")
 | frz {a:Addr} {o:Obj} {xs:List V} (e:H a=some (.frz o (.lst xs))):zih K H (.ref a) (.type "list")
 | tup {a:Addr} {xs:List V} (e:H a=some (.tup xs)):zih K H (.ref a) (.type "tuple")
 | dK {a:Addr} {kvs:List (Key×V)} (e:H a=some (.dK kvs)):zih K H (.ref a) (.type "dict")
 | dT {a:Addr} {kvs:List (List Key×V)} (e:H a=some (.dT kvs)):zih K H (.ref a) (.type "dict")
 | ins {a C dx:Addr} {fs:List (Str×V)} (e:H a=some (.ins C dx fs)) (cl:Cls K C) (ha:W.findIn K (.ref C) "__class__"=some (some (.builtin "object.__class__")))
   (hn:W.specialIn K (.builtin "object.__class__") "__get__"=some (some (.builtin "getset_descriptor.__get__"))) (htk:W.takesIn K (.builtin "object.__class__")=some true)
   (hm:W.mroIn K C (.type "object")=some true):zih K H (.ref a) (.ref C)
theorem zkW {x:V} {u t:Value} (I:Inv X pins σ H s) (rx:zby x u) (ty:zih X.K H x t) (e:W.kitOne X.K t c=some b) (h: ∀ tk,Q (.bool b) {s with toks:=tk}):
  wpAny (model X.prog X.w) A (call (.builtin "isinstance") [u,c]) Q E s:=by
 cases ty with
 | non=>cases (show u=Value.none from rx);exact W.kia_one W.kitx_none I.kIn True.intro e (fun z=>nomatch z) h
 | bl y=>cases (show u=Value.bool y from rx);exact W.kia_one W.kitx_bool I.kIn True.intro e (fun z=>nomatch z) h
 | int i=>obtain ⟨t,q⟩:=(show ∃ t,u=Value.int i t from rx);cases q;exact W.kia_one W.kitx_int I.kIn True.intro e (fun z=>nomatch z) h
 | str y=>obtain ⟨t,q⟩:=(show ∃ t,u=Value.str y t from rx);cases q;exact W.kia_one W.kitx_str I.kIn True.intro e (fun z=>nomatch z) h
 | flt y=>obtain ⟨t,q⟩:=(show ∃ t,u=Value.float y t from rx);cases q;exact W.kia_one W.kitx_float I.kIn True.intro e (fun z=>nomatch z) h
 | @lst a xs ea=>
  cases (show u=Value.ref a from rx)
  obtain ⟨_,_,n,_,h1⟩:=(show zbz X.prog X.w H s.heap a (.lst xs) from I.hok a _ ea)
  exact W.kia_one W.kitx_list I.kIn ⟨_,h1,rfl⟩ e (fun z=>nomatch z) h
 | @frz a ob xs ea=>
  cases (show u=Value.ref a from rx)
  obtain ⟨_,_,_,n,_,h1⟩:=(show zbz X.prog X.w H s.heap a (.frz ob (.lst xs)) from I.hok a _ ea)
  exact W.kia_one W.kitx_list I.kIn ⟨_,h1,rfl⟩ e (fun z=>nomatch z) h
 | @tup a xs ea=>
  cases (show u=Value.ref a from rx)
  obtain ⟨_,_,_,p⟩:=(show zbz X.prog X.w H s.heap a (.tup xs) from I.hok a _ ea)
  obtain ⟨o,h1,h2,_⟩:=p
  exact W.kia_one W.kitx_tuple I.kIn ⟨o,h1,h2⟩ e (fun z=>nomatch z) h
 | @dK a kvs ea=>
  cases (show u=Value.ref a from rx)
  obtain ⟨_,_,vs,_,p⟩:=(show zbz X.prog X.w H s.heap a (.dK kvs) from I.hok a _ ea)
  obtain ⟨o,es,ep,h1,h2,_⟩:=p
  exact W.kia_one W.kitx_dict I.kIn ⟨o,h1,h2.1⟩ e (fun z=>nomatch z) h
 | @dT a kvs ea=>
  cases (show u=Value.ref a from rx)
  obtain ⟨_,_,xs,_,o,es,ep,h1,h2,_⟩:=(show zbz X.prog X.w H s.heap a (.dT kvs) from I.hok a _ ea)
  exact W.kia_one W.kitx_dict I.kIn ⟨o,h1,h2.1⟩ e (fun z=>nomatch z) h
 | @ins a C dx fs ea cl ha hn htk hm=>
  cases (show u=Value.ref a from rx)
  obtain ⟨mA,O,_⟩:=zoa I.hok ea
  obtain ⟨od,J,_⟩:=O.look
  exact W.kia_one (W.kitx_own (cl.get _) cl.hd ha hn htk hm) I.kIn J e (fun z=>nomatch z) h
end
structure zdN (k:Nat) (A:Around):Prop where
 hd:A.handled=none
 dp:A.depth+3*k+5<recursionLimit
 un:A.units+16*k+200<cLine
theorem zdN.mono {j k:Nat} {A:Around} (r:zdN k A) (h:j<=k):zdN j A:=⟨r.hd,by have:=r.dp;omega,by have:=r.un;omega⟩
theorem zdN.deeper {k:Nat} {A:Around} (r:zdN (k+1) A) (env:Env):zdN k (A.deeper env):=
 ⟨r.hd,by have:=r.dp;show A.depth+1+3*k+5<_;omega,by have:=r.un;show A.units+3+16*k+200<_;omega⟩
theorem zdN.depth {k:Nat} {A:Around} (r:zdN k A):A.depth<recursionLimit:=by have:=r.dp;omega
theorem zdN.units {k:Nat} {A:Around} (r:zdN k A):A.units+64<cLine:=by have:=r.un;omega
noncomputable def zuW:TA:=fun _ H Q=>Q [] H
noncomputable def zt5 (ta:TE) (tr:TA):TA:=fun σ H Q=>ta σ H fun x H1=>tr σ H1 fun xs H2=>Q (x::xs) H2
section
variable {X:Cx} {e:Expr} {es:List Expr} {te:TE} {t:TA} {pos:Pos}
theorem zcU:PA X [] zuW:=fun _ _ _ _ H Q I h=>Calls.spliced_nil ⟨[],H,I,.nil,h⟩
theorem zbs (ha:PE X e te) (hr:PA X es t) (hs:starEach (e::es) X.env=(false,eval e X.env)::starEach es X.env:=by rfl):PA X (e::es) (zt5 te t):=by
 intro pos pins s σ H Q I h
 rw [hs]
 show wpAny _ _ (spliced ((false,eval e X.env)::backTo pos (starEach es X.env))) _ _ s
 refine Calls.spliced_cons (thn (ha pins s σ H _ I h) fun u s1 ⟨x,H1,I1,r1,q1⟩=> ?_)
 exact thn (hr pos pins s1 σ H1 _ I1 q1) fun us s2 ⟨xs,H2,I2,r2,q2⟩=>⟨x::xs,H2,I2,.cons r1 r2,q2⟩
noncomputable def zuN (t:TA):TE:=fun σ H Q=>t σ H fun xs H1=>xs.length<=sizeLine/\ ∀ p,H1 p=none->Q (.ref p) (upd H1 p (.tup xs))
noncomputable def zuo (t:TA):TE:=fun σ H Q=>t σ H fun xs H1=>xs.length<=sizeLine/\ ∀ p,H1 p=none->Q (.ref p) (upd H1 p (.lst xs))
theorem zql {x1} (h:PA X es t):PE X (.Tuple es x1 pos) (zuN t):=by
 intro pins s σ H Q I hq
 refine wpAny_Tuple_spliced (thn (h pos pins s σ H _ I hq) fun us s1 ⟨xs,H1,I1,r,z,q⟩=>⟨by rw [<- r.length];exact z,?_⟩)
 have hf:H1 s1.heap.objs.size=none:=I1.hok.fresh (qaV _)
 refine ⟨.ref s1.heap.objs.size,upd H1 s1.heap.objs.size (.tup xs),I1.laid (t':=s1.toks) (fun b u e=>qag _ e) (qaV _) ?_,rfl,q _ hf⟩
 exact ⟨z,us,r,⟨_,qar _ rfl,rfl,_,rfl,rfl⟩⟩
theorem zmU (h:PA X es t):PE X (.List es pos) (zuo t):=by
 intro pins s σ H Q I hq
 refine wpAny_List_spliced (thn (h pos pins s σ H _ I hq) fun us s1 ⟨xs,H1,I1,r,z,q⟩=>⟨by rw [<- r.length];exact z,?_⟩)
 have hf:H1 s1.heap.objs.size=none:=I1.hok.fresh (qaV _)
 refine ⟨.ref s1.heap.objs.size,upd H1 s1.heap.objs.size (.lst xs),I1.laid (t':=s1.toks) (fun b u e=>qag _ e) (qaV _) ?_,rfl,q _ hf⟩
 exact ⟨z,us,0,r,qar _ rfl⟩
end
noncomputable abbrev Sp:=List V->Hp->VK->XK->Prop
noncomputable abbrev CXT:=List Env->Hp->Shared->XK->Value->Shared->Prop
structure zpB (P:Program) (w:World) (K:W.Frag) (mg:Str->Option Value) (base:Heap) (A:Around) (outer:List Env) (s:Shared) (H:Hp):Prop where
 frames:A.frames=some outer
 mod:Mod K mg base
 bs: ∀ b o,base.get? b=some o->s.heap.get? b=some o/\H b=none
 bsz:base.objs.size<=s.heap.objs.size
 funs:s.heap.FunFrames base outer
 frf: ∀ b∈frs outer,H b=none
 hok:HOk P w H s.heap
 bare:AllBare s.gens
 hand:zgk A H
def CE (outer:List Env) (P:Program) (w:World) (H:Hp) (s:Shared) (Q:VK) (u:Value) (s':Shared):Prop:=
 ∃ v H',s'.os=s.os/\AllBare s'.gens/\Un (frs outer) [] H H' s.heap s'.heap/\HOk P w H' s'.heap/\zby v u/\Q v H'
def CR (CX:CXT) (outer:List Env) (P:Program) (w:World) (H:Hp) (s:Shared) (Q:VK) (E:XK) (r:Result) (s':Shared):Prop:=
 match r with
 | .ok (.ret u)=>CE outer P w H s Q u s'
 | .ok _=>False
 | .error e=>CX outer H s E e s'
structure zb6 (P:Program) (w:World) (K:W.Frag) (mg:Str->Option Value) (base:Heap) (CX:CXT) (k:Nat) (f:Addr) (fd:FuncData) (ps:List Str) (sp:Sp):Prop where
 len: ∀ vs H Q E,sp vs H Q E->vs.length=ps.length
 run: ∀ (A:Around) (outer:List Env) (s:Shared) (H:Hp) (args:Args) (us:List Value) (vs:List V) (Q:VK) (E:XK),zdN k A->zpB P w K mg base A outer s H->BindsTo s fd args (ps.zip us)->zbm vs us->sp vs H Q E->
  codeAny (model P w) A (.call (.ref f) args) (CR CX outer P w H s Q E) s
section
variable {X:Cx} {pins:List (Addr×Obj)} {σ:St} {H:Hp} {s s':Shared}
theorem Inv.env0 (I:Inv X pins σ H s):zpB X.prog X.w X.K X.mg X.base X.A X.stack s H:=
 ⟨I.ok.frames,I.ok.mod,I.bs,qaS I.ok.bsz I.sz,I.stack,I.stkFree,I.hok,I.bare,I.handA⟩
theorem Inv.after {Q:VK} {u:Value} (I:Inv X pins σ H s) (h:CE X.stack X.prog X.w H s Q u s'):EP X pins σ Q u s':=by
 obtain ⟨v,H',os,bare,un,hok,r,q⟩:=h
 obtain ⟨hh,g,d,t,os'⟩:=s'
 obtain rfl:os'=s.os:=os
 exact ⟨v,H',I.call (h':=hh) (g':=g) (d':=d) (t':=t) (ch:=[]) un hok bare (fun b z=>absurd z (by simp)),r,q⟩
end
noncomputable def ztp (sp:Sp) (dvs:List V) (E:XK) (t:TA):TE:=fun σ H Q=>t σ H fun vs H1=>sp (vs++dvs) H1 Q E
def zaS (K:W.Frag) (fd:FuncData) (ps:List Str) (ds:List Value):Prop:=
 ∀ (s:Shared) (us:List Value),K.In s.heap->(us++ds).length=ps.length->BindsTo s fd ⟨us,[]⟩ (ps.zip (us++ds))
theorem zaS.all {K:W.Frag} {fd:FuncData} {ps:List Str} (h: ∀ us:List Value,us.length=ps.length->bindArgs fd ⟨us,[]⟩=pure (ps.zip us)):zaS K fd ps []:=fun s us _ hl=>by
 rw [List.append_nil] at hl ⊢
 exact .of_eq (h us hl)
def zdA (CX:CXT) (X:Cx) (E:XK):Prop:= ∀ (pins:List (Addr×Obj)) (σ:St) (H:Hp) (s:Shared) (e:Value) (s':Shared),Inv X pins σ H s->CX X.stack H s E e s'->X.xe e s'
section
variable {X:Cx} {CX:CXT} {k:Nat} {f C:Addr} {fd:FuncData} {ps:List Str} {sp:Sp} {dvs:List V} {ds:List Value} {E:XK} {x m:Str} {p pos apos:Pos} {e o:Expr} {es:List Expr} {ta:TE} {t:TA}
theorem zrE {pins:List (Addr×Obj)} {σ:St} {H:Hp} {s:Shared} {Q:VK} {us:List Value} {vs:List V} (F:zb6 X.prog X.w X.K X.mg X.base CX k f fd ps sp) (hr:zdN k X.A) (hb:zaS X.K fd ps ds) (hd:zbm dvs ds) (hx:zdA CX X E)
  (I:Inv X pins σ H s) (r:zbm vs us) (h:sp (vs++dvs) H Q E):wpAny (model X.prog X.w) X.A (call (.ref f) us) (EP X pins σ Q) X.xe s:=by
 have r2:zbm (vs++dvs) (us++ds):=r.append hd
 have hl:(us++ds).length=ps.length:=by rw [<- r2.length];exact F.len _ _ _ _ h
 refine wpAny_call (codeAny_mono (F.run X.A X.stack s H ⟨us,[]⟩ (us++ds) (vs++dvs) Q E hr I.env0 (hb s us I.kIn hl) r2 h) fun r s' hq=> ?_)
 cases r with
 | error e=>exact hx pins σ H s e s' I hq
 | ok fl=>
  cases fl with
  | ret u=>exact I.after hq
  | next=>exact qa0 hq
  | brk=>exact qa0 hq
  | cont=>exact qa0 hq
theorem zhd (F:zb6 X.prog X.w X.K X.mg X.base CX k f fd ps sp) (hr:zdN k X.A) (hg:Gl X x) (hm:X.mg x=some (.ref f)) (hk:W.keepIn X.K (.ref f)=true) (hb:zaS X.K fd ps ds) (hd:zbm dvs ds) (hx:zdA CX X E)
  (ha:PA X (e::es) t) (hdb:(x==("__debug__":Str))=false:=by decide) (he:starEach (e::es) X.env=(false,eval e X.env)::starEach es X.env:=by rfl) (hpl:(backTo pos (starEach es X.env)).any (·.1)=false:=by rfl):
  PE X (.Call (.Name x p) (e::es) [] pos) (ztp sp dvs E t):=by
 intro pins s σ H Q I h
 refine wpAny_Call_Name_kw (zg7 I hg hm ?_ hdb)
 refine W.callWith_K (h₀:=X.base) I.ok.mod.kin hk (thn (ha pos pins s σ H _ I h) fun us s1 ⟨vs,H1,I1,r,q⟩=>⟨I1.kIn,?_⟩) he hpl
 exact zrE F hr hb hd hx I1 r q
structure Mk (K:W.Frag) (C f:Addr):Prop where
 makes:W.makesIn K C=true
 init:W.findIn K (.ref C) "__init__"=some (some (.ref f))
 fn:W.isFn K (.ref f)=true
 kp:W.keepIn K (.ref C)=true
end
section
variable {X:Cx} {CX:CXT} {k:Nat} {f C:Addr} {fd:FuncData} {ps ks:List Str} {sp:Sp} {E:XK} {x m:Str} {p pos apos kpos:Pos} {e o:Expr} {es:List Expr} {kws:List Keyword} {te ta:TE} {t tk:TA} {nm:Option Str}
structure zuj (K:W.Frag) (fd:FuncData) (ps ks:List Str) (g:List Value->List Value->List Value) (gV:List V->List V->List V):Prop where
 to: ∀ (s:Shared) (us ws:List Value),K.In s.heap->(g us ws).length=ps.length->BindsTo s fd ⟨us,ks.zip ws⟩ (ps.zip (g us ws))
 rel: ∀ {vs:List V} {us:List Value} {zs:List V} {ws:List Value},zbm vs us->zbm zs ws->zbm (gV vs zs) (g us ws)
variable {g:List Value->List Value->List Value} {gV:List V->List V->List V}
end
structure zau (N P:List Str) (sc:Scope):Prop where
 kind:sc.kind= .function
 co:sc.isCoroutine=false
 gen:sc.isGenerator=false
 nd:N.Nodup
 pre:N.take P.length=P
 par: ∀ x∈P,sc.names.lookup x=some .local\/sc.names.lookup x=some .cell
 nofree: ∀ y∈sc.names,y.2≠ .free
theorem zgq {kindOf:Str->Option NameKind} {x:Str}: ∀ {binds:List (Str×Value)} {m:Str->Option Value},(∀ v,(x,v)∉binds)->bindL kindOf binds m x=m x
 | [],_,_=>rfl
 | (n,v)::r,m,h=>by
  unfold bindL
  rw [zgq fun w hw=>h w (qan _ hw)]
  split
  ·have:x≠n:=by rintro rfl;exact h v qau
   simp [this]
  ·rfl
theorem zgT {kindOf:Str->Option NameKind} {x:Str}: ∀ {binds:List (Str×Value)} {m:Str->Option Value},(∀ v,(x,v)∉binds)->bindC kindOf binds m x=m x
 | [],_,_=>rfl
 | (n,v)::r,m,h=>by
  unfold bindC
  rw [zgT fun w hw=>h w (qan _ hw)]
  split
  ·rfl
  ·have:x≠n:=by rintro rfl;exact h v qau
   simp [this]
theorem zgj {kindOf:Str->Option NameKind} {x:Str} {v:Value}: ∀ {P:List Str} {vs:List Value} {i:Nat} {m:Str->Option Value},P.Nodup->P[i]? = some x->vs[i]? = some v->kindOf x=some .local->
  bindL kindOf (P.zip vs) m x=some v
 | [],_,_,_,_,h,_,_=>by simp at h
 | _::_,[],_,_,_,_,h,_=>by simp at h
 | p::P,w::vs,0,m,nd,h1,h2,hk=>by
  simp at h1 h2;subst h1;subst h2
  show bindL kindOf ((p,w)::P.zip vs) m p=_
  unfold bindL
  rw [zgq fun v hv=>(List.nodup_cons.mp nd).1 (List.of_mem_zip hv).1,qa4 hk]
  simp
 | p::P,w::vs,i+1,m,nd,h1,h2,hk=>by
  show bindL kindOf ((p,w)::P.zip vs) m x=_
  unfold bindL
  exact zgj (i:=i) (List.nodup_cons.mp nd).2 (by simpa using h1) (by simpa using h2) hk
theorem zgU {kindOf:Str->Option NameKind} {x:Str} {v:Value}: ∀ {P:List Str} {vs:List Value} {i:Nat} {m:Str->Option Value},P.Nodup->P[i]? = some x->vs[i]? = some v->kindOf x≠some .local->
  bindC kindOf (P.zip vs) m x=some v
 | [],_,_,_,_,h,_,_=>by simp at h
 | _::_,[],_,_,_,_,h,_=>by simp at h
 | p::P,w::vs,0,m,nd,h1,h2,hk=>by
  simp at h1 h2;subst h1;subst h2
  show bindC kindOf ((p,w)::P.zip vs) m p=_
  unfold bindC
  rw [zgT fun v hv=>(List.nodup_cons.mp nd).1 (List.of_mem_zip hv).1,qa5 hk]
  simp
 | p::P,w::vs,i+1,m,nd,h1,h2,hk=>by
  show bindC kindOf ((p,w)::P.zip vs) m x=_
  unfold bindC
  exact zgU (i:=i) (List.nodup_cons.mp nd).2 (by simpa using h1) (by simpa using h2) hk
noncomputable def zdP (N:List Str) (vs:List V):St:=vs.map some++List.replicate (N.length - vs.length) none
noncomputable def zg4 (CX:CXT) (P:Program) (w:World) (K:W.Frag) (mg:Str->Option Value) (base:Heap) (N:List Str) (qual:Str) (scope:Scope) (f:Addr) (cd:Value) (A:Around) (outer:List Env) (s:Shared) (H:Hp) (E:XK):Cx where
 prog:=P
 w:=w
 K:=K
 mg:=mg
 base:=base
 A:=A.deeper (envOfC qual scope s.heap.objs.size f cd)
 N:=N
 s₀:=s
 H₀:=H
 env:=envOfC qual scope s.heap.objs.size f cd
 outer:=outer
 stack:=envOfC qual scope s.heap.objs.size f cd::outer
 ex:=[]
 calm:=true
 fn:=fun _=>true
 pn:=[]
 xe:=fun e s'=>wpAny (model P w) (A.deeper (envOfC qual scope s.heap.objs.size f cd)) (leaving (envOfC qual scope s.heap.objs.size f cd) e) (fun _ s''=>CX outer H s E e s'') (fun e' s''=>CX outer H s E e' s'') s'
theorem zis {sc:Scope} {n:Nat} {x:Str} (h:sc.names.lookup x=some .cell): ∃ c,(cellsFrom n sc.names []).lookup x=some c:=by
 have q:=W.cellsFrom_some sc.names n [] (.inl h)
 exact Option.isSome_iff_exists.mp q
theorem zgw {CX:CXT} {P:Program} {w:World} {K:W.Frag} {mg:Str->Option Value} {base:Heap} {N ps:List Str} {qual:Str} {scope:Scope} {f:Addr} {cd:Value} {A:Around} {outer:List Env} {s s1:Shared} {H:Hp} {E:XK} {us:List Value} {vs:List V}
  (S:zau N ps scope) {cm:Bool} (hd:cm=true->A.handled=none) (e0:zpB P w K mg base A outer s H) (hl:vs.length=ps.length) (r:zbm vs us)
  (x:InCallC s s.heap.objs.size (bindL (envOfC qual scope s.heap.objs.size f cd).kindOf (ps.zip us) fun _=>none) (cellsFrom (s.heap.objs.size+1) scope.names []) (bindC (envOfC qual scope s.heap.objs.size f cd).kindOf (ps.zip us) fun _=>none) s1):
  Inv {zg4 CX P w K mg base N qual scope f cd A outer s H E with calm:=cm} [] (zdP N vs) H s1:=by
 have hpl:ps.length<=N.length:=by have:=congrArg List.length S.pre;rw [List.length_take] at this;omega
 obtain ⟨h1,tk,rfl,hk⟩:=x.done
 have noA: ∀ b:Addr,b∉(zg4 CX P w K mg base N qual scope f cd A outer s H E).ex:=fun b z=>absurd (show b∈([]:List Addr) from z) (by simp)
 refine ⟨⟨e0.mod,S.kind,rfl,rfl,qaV _,fun y z c h1 h2=> ?_,fun y hy=> ?_,fun y c _ h=> ?_,hd,e0.hand,Around.frames_deeper e0.frames,.inr ⟨rfl,rfl⟩,fun b z=>absurd z (noA b),e0.bs,e0.bsz,fun b _ _=>noA b,fun b z=>absurd z (noA b),e0.funs,e0.frf⟩,
   rfl,e0.bare,Un.kept hk,⟨_,x.toInCall.ns,fun i y v h1 h2 h3=> ?_⟩,fun y c h=>⟨_,x.cell y c h⟩,e0.hok.fresh (qaV _),fun y c h=> ?_,fun p hp=>absurd (show p∈([]:List (Addr×Obj)) from hp) (by simp),e0.hok.kept hk,?_⟩
 ·exact name_of_addr x.apart (PySem.mem_of_lookup h1) (PySem.mem_of_lookup h2)
 ·have hy:scope.names.lookup y=some .cell\/scope.names.lookup y=some .free:=hy
  rcases hy with hy | hy
  ·exact zis hy
  ·exact absurd rfl (S.nofree _ (PySem.mem_of_lookup hy))
 ·exact Nat.le_of_lt (x.above y c (PySem.mem_of_lookup h))
 ·have hi:i<vs.length:=by
   unfold zdP at h2
   by_cases hi:i<vs.length
   ·exact hi
   ·rw [qaa (by simpa using hi)] at h2
    rw [List.getElem?_replicate] at h2
    split at h2<;>cases h2
  have ha:vs[i]? = some v:=by
   unfold zdP at h2
   rw [qad (by simpa using hi),List.getElem?_map] at h2
   cases e:vs[i]? with
   | none=>rw [e] at h2;cases h2
   | some a=>rw [e] at h2;cases h2;rfl
  obtain ⟨u,hu,rv⟩:=r.get ha
  have hp:ps[i]? = some y:=by
   rw [<- S.pre,List.getElem?_take_of_lt (by omega)];exact h1
  have ndP:ps.Nodup:=by rw [<- S.pre];exact S.nd.sublist (List.take_sublist _ _)
  refine ⟨u,rv,?_⟩
  rcases S.par y (List.mem_of_getElem? hp) with k | k
  ·exact .inl ⟨k,zgj ndP hp hu k⟩
  ·obtain ⟨c,e⟩:=zis (n:=s.heap.objs.size+1) k
   refine .inr ⟨.inl k,c,e,?_⟩
   have q:=x.cell y c e
   rw [zgU ndP hp hu (by show scope.names.lookup y≠_;rw [k];decide)] at q
   exact q
 ·exact e0.hok.fresh (Nat.le_of_lt (x.above y c (PySem.mem_of_lookup h)))
 ·unfold zdP
  show _=N.length
  rw [qav,qaH,List.length_replicate]
  omega
theorem zrz {CX:CXT} {P:Program} {w:World} {K:W.Frag} {mg:Str->Option Value} {base:Heap} {k:Nat} {f:Addr} {name qual:Str} {params:Arguments} {body:List Stmt} {scope:Scope} {dV kV doc pm cdv ct oc:Value} {an od:Option Addr}
  {osl:Array (Option Value)} {N ps:List Str} {sp:Sp} (lk:K.lookup f=some ⟨oc,od,.func (W.fnOf name qual params body scope dV kV doc pm an cdv ct),osl⟩) (hcd:W.codeIn K cdv qual=true) (S:zau N ps scope)
  (len: ∀ vs H Q E,sp vs H Q E->vs.length=ps.length)
  (hbody: ∀ (A:Around) (outer:List Env) (s:Shared) (H:Hp) (vs:List V) (Q:VK) (E:XK),zdN k (A.deeper (envOfC qual scope s.heap.objs.size f cdv))->sp vs H Q E->
    ∃ t,PSs (zg4 CX P w K mg base N qual scope f cdv A outer s H E) body t/\t {nx:=fun _ H'=>Q .non H',rt:=Q} (zdP N vs) H):
  zb6 P w K mg base CX (k+1) f (W.fnOf name qual params body scope dV kV doc pm an cdv ct) ps sp:=by
 refine ⟨len,fun A outer s H args us vs Q E hr e0 hb r hsp=> ?_⟩
 have hl:=len _ _ _ _ hsp
 have KX:K.In s.heap:=e0.mod.kin.keeps fun b o e=>(e0.bs b o e).1
 have lim:s.heap.NoLimit:=e0.mod.nolimit.keeps fun b o e=>(e0.bs b o e).1
 have hkind: ∀ y∈ps.zip us,scope.names.lookup y.1=some .local\/(scope.names.lookup y.1=some .cell/\((cellsFrom (s.heap.objs.size+1) scope.names []).lookup y.1).isSome=true):=fun ⟨n,v⟩ hy=>by
  rcases S.par n (List.of_mem_zip hy).1 with q | q
  ·exact .inl q
  ·exact .inr ⟨q,W.cellsFrom_some _ _ _ (.inl q)⟩
 refine codeAny_call_function hr.depth (KX _ _ lk) rfl S.co S.gen rfl (W.codeRec_of KX hcd) (hb _ _ _ _ ?_)
 refine wpAny_newFunctionEnv_cells S.kind hkind fun env he s1 x=> ?_
 subst he
 refine ⟨lim.keeps x.toInCall.keep,codeAny_func ?_⟩
 obtain ⟨t,ht,hq⟩:=hbody A outer s H vs Q E (hr.deeper _) hsp
 have I:Inv (zg4 CX P w K mg base N qual scope f cdv A outer s H E) [] (zdP N vs) H s1:=zgw (cm:=true) S (fun _=>hr.hd) e0 hl r x
 refine qaZ (ht [] s1 (zdP N vs) H _ I hq) (fun fl s' hs=> ?_) fun e s' hs=>hs
 have fin: ∀ {σ':St} {H':Hp} {v:V} {u:Value},Inv (zg4 CX P w K mg base N qual scope f cdv A outer s H E) [] σ' H' s'->zby v u->Q v H'->CE outer P w H s Q u s':=
  fun {σ' H' v u} J rv q=>⟨v,H',J.os,J.bare,J.base,J.hok,rv,q⟩
 cases fl with
 | ret u=>
  obtain ⟨v,σ',H',J,rv,q⟩:=hs
  exact fin J rv q
 | next=>
  obtain ⟨σ',H',J,q⟩:=hs
  exact fin (v:=V.non) (u:=Value.none) J rfl q
 | brk=>
  obtain ⟨_,_,_,q⟩:=hs
  exact qa0 q
 | cont=>
  obtain ⟨_,_,_,q⟩:=hs
  exact qa0 q
section
variable {X:Cx} {x:Str} {p pos:Pos} {e:Expr} {es:List Expr} {t:TA} {id T:String} {r:List V->Hp->VK->Prop}
noncomputable def tCB (r:List V->Hp->VK->Prop) (t:TA):TE:=fun σ H Q=>t σ H fun vs H1=>r vs H1 Q
theorem zdz (hc:zaZ X (.builtin id) r) (hg:Gl X x) (hm:X.mg x=none) (hv:bootBuiltins x=some (.builtin id)) (ha:PA X (e::es) t) (hn:x≠"__name__":=by decide) (hdb:(x==("__debug__":Str))=false:=by decide)
  (he:starEach (e::es) X.env=(false,eval e X.env)::starEach es X.env:=by rfl) (hpl:(backTo pos (starEach es X.env)).any (·.1)=false:=by rfl):PE X (.Call (.Name x p) (e::es) [] pos) (tCB r t):=by
 intro pins s σ H Q I h
 refine wpAny_Call_Name_kw (zd4 I hg hm hv ?_ hn hdb)
 exact PyProof.Rows.callWith_builtin1 (thn (ha pos pins s σ H _ I h) fun us s1 ⟨vs,H1,I1,r1,q1⟩=>hc pins s1 σ H1 vs us Q I1 r1 q1) he hpl
theorem zgQ (hc:zaZ X (.type T) r) (hg:Gl X x) (hm:X.mg x=none) (hv:bootBuiltins x=some (.type T)) (ha:PA X (e::es) t) (hn:x≠"__name__":=by decide) (hdb:(x==("__debug__":Str))=false:=by decide)
  (he:starEach (e::es) X.env=(false,eval e X.env)::starEach es X.env:=by rfl) (hpl:(backTo pos (starEach es X.env)).any (·.1)=false:=by rfl):PE X (.Call (.Name x p) (e::es) [] pos) (tCB r t):=by
 intro pins s σ H Q I h
 refine wpAny_Call_Name_kw (zd4 I hg hm hv ?_ hn hdb)
 exact PyProof.Rows.callWith_type1 (thn (ha pos pins s σ H _ I h) fun us s1 ⟨vs,H1,I1,r1,q1⟩=>hc pins s1 σ H1 vs us Q I1 r1 q1) he hpl
end
end L2
namespace HT
open PySem PyProof.Rows
section
open PySem.SeqAt
open PySem.AutoSeq1 (wpAny_loadPart')
open PySem.MeetsSeq PySem.MeetsSeq2 PySem.MeetsSeq3
end
section
variable {prog:Program} {w:World} {A:Around} {E:Value->Shared->Prop} {s:Shared}
theorem zpv {t b:Addr} {vs ws:List Value} {Q:Value->Shared->Prop} (ht:IsTup s.heap t vs.toArray) (hb:IsTup s.heap b ws.toArray) (hv:vs≠[])
  (h1:ws=[]->Q (.ref t) s) (h2:ws≠[]->Q (.ref s.heap.objs.size) {s with heap:=s.heap.push {cls:= .type "tuple",data:= .seq (vs++ws).toArray}})
  (hsz:vs.length+ws.length<=sizeLine):wpAny (model prog w) A (binaryOp .Add (.ref t) (.ref b)) Q E s:=by
 obtain ⟨⟨cls,dd,data,sl⟩,ho,hc,n,hd⟩:=id ht
 obtain ⟨⟨cls2,dd2,data2,sl2⟩,ho2,hc2,n2,hd2⟩:=id hb
 simp only at hc hd hc2 hd2
 subst hc hd hc2 hd2
 have e:vs.toArray++ws.toArray=(vs++ws).toArray:=by simp
 by_cases hw:ws=[]
 ·exact concat_meets ⟨_,ho,rfl⟩ ⟨_,ho2,rfl⟩ noFill_tuple_add seq_tuple_add PySem.F.slot_tuple_add PySem.F.entry_tuple_add (PySem.F.args_tuple_add_2 _ _)
   (tuple_addW1 t b vs.toArray ws.toArray n n2 dd dd2 sl sl2 (by simpa using hv) (by simp [hw])) ⟨ho,ho2,h1 hw⟩
 ·refine concat_meets ⟨_,ho,rfl⟩ ⟨_,ho2,rfl⟩ noFill_tuple_add seq_tuple_add PySem.F.slot_tuple_add PySem.F.entry_tuple_add (PySem.F.args_tuple_add_2 _ _)
   (tuple_addW2 t b vs.toArray ws.toArray n n2 dd dd2 sl sl2 (by simpa using hv) (by simpa using hw) (by rw [qaA,qaA];exact hsz)) ⟨ho,ho2,?_⟩
  rw [e]
  exact h2 hw
noncomputable def sIx (n d:Nat):Option Int->Nat
 | none=>d
 | some v=>if v<0 then (v+(n:Int)).toNat else min v.toNat n
end
end HT
namespace L2
open PySem PySem.Spec PyProof.Rows
noncomputable abbrev TO:=St->Hp->(Option Int->Hp->Prop)->Prop
theorem zcA {ns:List Int}: ∀ {us:List Value},zbm (ns.map V.int) us->IntsAre us ns:=by
 induction ns with
 | nil=>intro us r;rw [List.map_nil] at r;cases r;exact .nil
 | cons n ns ih=>
  intro us r
  rw [qaM] at r
  cases r with
  | cons r1 r2=>
   obtain ⟨t,e⟩:=r1
   subst e
   exact .cons n t (ih r2)
section
variable {X:Cx} {e:Expr} {te:TE} {lo hi:Option Expr} {tl th:TO} {pos p2:Pos}
noncomputable def ztC (K:W.Frag):R2:=fun x y H Q=> ∃ a b xs ys,x= .ref a/\y= .ref b/\SqT K H a xs/\SqT K H b ys/\xs≠[]/\xs.length+ys.length<=sizeLine/\
 (ys=[]->Q (.ref a) H)/\(ys≠[]-> ∀ p,H p=none->Q (.ref p) (upd H p (.tup (xs++ys))))
theorem zbm.nil_iff {xs:List V} {us:List Value} (r:zbm xs us):us=[]↔xs=[]:=by
 cases r with
 | nil=>simp
 | cons _ _=>simp
theorem zpn:OpR X (binaryOp .Add) (ztC X.K):=by
 intro pins s σ H x y v u Q I rx ry h
 obtain ⟨a,b,xs,ys,rfl,rfl,ha,hb,hx,hz,q1,q2⟩:=h
 cases rx
 cases ry
 obtain ⟨its,r1,p1,_⟩:=I.tuple ha
 obtain ⟨its2,r2,p2,_⟩:=I.tuple hb
 refine HT.zpv p1 p2 (fun z=>hx (r1.nil_iff.mp z)) (fun z=>⟨.ref a,H,I,rfl,q1 (r2.nil_iff.mp z)⟩) (fun z=> ?_) (by rw [<- r1.length, <-r2.length];exact hz)
 refine ⟨.ref s.heap.objs.size,_,I.laid (t':=s.toks) (o:= .tup (xs++ys)) (fun b ob q=>qag _ q) (qaV _) ?_,rfl,q2 (fun w=>z (r2.nil_iff.mpr w)) _ (I.hok.fresh (qaV _))⟩
 exact ⟨by rw [qav];exact hz,_,r1.append r2,zi2.new _ _⟩
end
noncomputable def ixN (n:Nat) (i:Int):Option Nat:=if 0<=i then (if i<n then some i.toNat else none) else if -(n:Int)<=i then some (i+n).toNat else none
noncomputable def atI {α:Type} (xs:List α) (i:Int):Option α:=(ixN xs.length i).bind fun j=>xs[j]?
theorem zk0 {n:Nat} {i:Int} {j:Nat} (h:ixN n i=some j):seqIndex? i n=some j/\j<n/\ -(n:Int)<=i/\i<n:=by
 unfold ixN at h
 by_cases h0:0<=i
 ·rw [qa4 h0] at h
  by_cases h1:i<n
  ·rw [qa4 h1] at h
   have e:i.toNat=j:=Option.some.inj h
   exact ⟨by rw [seqIndex_of h0 h1,e],by omega,by omega,h1⟩
  ·rw [qa5 h1] at h;cases h
 ·rw [qa5 h0] at h
  by_cases h1: -(n:Int)<=i
  ·rw [qa4 h1] at h
   have e:(i+n).toNat=j:=Option.some.inj h
   exact ⟨by rw [seqIndex_neg (by omega) h1,e],by omega,h1,by omega⟩
  ·rw [qa5 h1] at h;cases h
theorem zjC {α:Type} {xs:List α} {i:Int} {v:α} (h:atI xs i=some v): ∃ j,seqIndex? i xs.length=some j/\xs[j]? = some v/\j<xs.length/\ -(xs.length:Int)<=i/\i<xs.length:=by
 unfold atI at h
 cases e:ixN xs.length i with
 | none=>rw [e] at h;cases h
 | some j=>
  rw [e] at h
  obtain ⟨h1,h2,h3,h4⟩:=zk0 e
  exact ⟨j,h1,h,h2,h3,h4⟩
theorem zfw {α:Type} {xs:List α} {j:Nat} {v:α} (h:xs[j]? = some v):atI xs (j:Int)=some v:=by
 have hj:j<xs.length:=(qac.mp h).1
 have e:ixN xs.length (j:Int)=some j:=by
  unfold ixN
  rw [qa4 (by omega),qa4 (by omega)];simp
 unfold atI;rw [e];exact h
def zhy (b:Expr):Prop:= ∀ o i,subscripted b false o i=operate [o,i] (getItem o i)
def IxR (X:Cx) (r:R2):Prop:=
 ∀ (value slice:Expr) (pins:List (Addr×Obj)) (s:Shared) (σ:St) (H:Hp) (x y:V) (v u:Value) (Q:VK),Inv X pins σ H s->zby x v->zby y u->r x y H Q->
  subscripted slice false v u=operate [v,u] (getItem v u)->wpAny (model X.prog X.w) X.A (subscriptTail value slice v u) (EP X pins σ Q) X.xe s
def MtR (X:Cx) (id:String) (r:V->List V->Hp->VK->Prop):Prop:=
 ∀ (pins:List (Addr×Obj)) (s:Shared) (σ:St) (H:Hp) (x:V) (xs:List V) (v:Value) (us:List Value) (Q:VK),Inv X pins σ H s->zby x v->zbm xs us->r x xs H Q->
  wpAny (model X.prog X.w) X.A (call (.builtin id) (v::us)) (EP X pins σ Q) X.xe s
section
variable {X:Cx} {a b:Expr} {ta tb:TE} {pos:Pos}
theorem IxR.or {r r':R2} (h:IxR X r) (h':IxR X r'):IxR X (fun x y H Q=>r x y H Q\/r' x y H Q):=by
 intro value slice pins s σ H x y v u Q I rx ry q hs
 rcases q with q | q
 ·exact h value slice pins s σ H x y v u Q I rx ry q hs
 ·exact h' value slice pins s σ H x y v u Q I rx ry q hs
theorem ztS {r:R2} (hr:IxR X r) (ha:PE X a ta) (hb:PE X b tb) (hs:zhy b):PE X (.Subscript a b pos) (tOp r ta tb):=by
 intro pins s σ H Q I h
 exact Subscript_ (ztb ha hb I h fun v u s2 x y H2 I2 rx ry q=>hr a b pins s2 σ H2 x y v u Q I2 rx ry q (hs _ _))
noncomputable def zuy (K:W.Frag):R2:=fun x y H Q=> ∃ p xs i v,x= .ref p/\y= .int i/\SqL K H p xs/\atI xs i=some v/\Q v H
noncomputable def zuL (K:W.Frag):R2:=fun x y H Q=> ∃ p xs i v,x= .ref p/\y= .int i/\SqT K H p xs/\atI xs i=some v/\Q v H
theorem zpp:IxR X (zuy X.K):=by
 intro value slice pins s σ H x y v u Q I rx ry h hs
 obtain ⟨p,xs,i,z,rfl,rfl,hq,he,q⟩:=h
 cases rx
 obtain ⟨t,rfl⟩:=ry
 obtain ⟨its,r,pl,hz⟩:=I.list hq
 obtain ⟨j,h1,h2,h3,h4,h5⟩:=zjC he
 obtain ⟨w,ew,rw'⟩:=r.get h2
 have hl:=r.length
 have hn:=zh3
 have fin:EP X pins σ Q w s:=⟨z,H,I,rw',q⟩
 by_cases h0:0<=i
 ·have hj:i.toNat=j:=by
   rw [seqIndex_of h0 h5] at h1
   exact Option.some.inj h1
  exact item_listR pl.isList h0 (by omega) (by rw [hj];simpa using ew) fin hs
 ·have hj:(i+(its.toArray.size:Int)).toNat=j:=by
   rw [seqIndex_neg (by omega) h4] at h1
   rw [qaA, <-hl]
   exact Option.some.inj h1
  exact subscriptTail_builtinR (x:=w) pl.isList.typeIs slot_list_getitem.lookup
   (wpAny_getItem_list_neg (Q:=fun r s'=>r=w/\EP X pins σ Q r s') pl.isList (by omega) (by rw [qaA]<;>omega) (by omega) (by rw [hj];simpa using ew) ⟨rfl,fin⟩) hs
theorem zrj:IxR X (zuL X.K):=by
 intro value slice pins s σ H x y v u Q I rx ry h hs
 obtain ⟨p,xs,i,z,rfl,rfl,hq,he,q⟩:=h
 cases rx
 obtain ⟨t,rfl⟩:=ry
 obtain ⟨its,r,pl,hz⟩:=I.tuple hq
 obtain ⟨j,h1,h2,h3,h4,h5⟩:=zjC he
 obtain ⟨w,ew,rw'⟩:=r.get h2
 have hl:=r.length
 have hn:=zh3
 have fin:EP X pins σ Q w s:=⟨z,H,I,rw',q⟩
 exact subscriptTail_builtinR (x:=w) pl.typeIs slot_tuple_getitem.lookup
  (getItem_tuple (j:=j) (Q:=fun r s'=>r=w/\EP X pins σ Q r s') pl (by omega) (by omega) (by rw [qaA, <-hl];exact h1) (by simpa using ew) ⟨rfl,fin⟩) hs
theorem ziW (its:List Value) (n j:Nat) (u:Value):Obj.mapSeq (·.setIfInBounds j u) {cls:= .type "list",data:= .seq its.toArray n}={cls:= .type "list",data:= .seq (its.set j u).toArray n}:=by
 simp [Obj.mapSeq]
theorem Inv.lst {pins:List (Addr×Obj)} {σ:St} {H:Hp} {s:Shared} {p:Addr} {xs:List V} (I:Inv X pins σ H s) (h:H p=some (.lst xs)):
  ∃ (its:List Value) (n:Nat),zbm xs its/\s.heap.get? p=some {cls:= .type "list",data:= .seq its.toArray n}/\xs.length<=sizeLine:=by
 obtain ⟨z,its,n,r,e⟩:=I.hok p _ h
 exact ⟨its,n,r,e,z⟩
theorem Inv.lstUpd {pins:List (Addr×Obj)} {σ:St} {H:Hp} {s:Shared} {p:Addr} {xs ys:List V} {its its':List Value} {n n':Nat} {f:Obj->Obj} (I:Inv X pins σ H s) (h:H p=some (.lst xs))
  (ho:s.heap.get? p=some {cls:= .type "list",data:= .seq its.toArray n}) (hf:f {cls:= .type "list",data:= .seq its.toArray n}={cls:= .type "list",data:= .seq its'.toArray n'}) (r:zbm ys its') (hz:ys.length<=sizeLine) (t:Nat):
  Inv X pins σ (upd H p (.lst ys)) {s with heap:=s.heap.update p f,toks:=t}:=by
 have e:(s.heap.update p f).get? p=some {cls:= .type "list",data:= .seq its'.toArray n'}:=by
  rw [qal f ho (by rw [hf]<;>rfl),hf]
 refine I.write (x:=p) (e:=p) (by rw [h];trivial) (.inl rfl) (fun b u hb q=>(qah _ _ (Ne.symm hb)).trans q) ⟨_,e⟩ ?_
 exact ⟨hz,its',n',r,e⟩
noncomputable def zs6:V->V->V->Hp->(Hp->Prop)->Prop:=fun o i v H Q=> ∃ p xs k j,o= .ref p/\i= .int k/\H p=some (.lst xs)/\ixN xs.length k=some j/\Q (upd H p (.lst (xs.set j v)))
theorem zlZ:zsR X zs6:=by
 intro pins s σ H o i v ov iv u Q I ro ri rv h
 obtain ⟨p,xs,k,j,rfl,rfl,hp,hj,q⟩:=h
 cases ro
 obtain ⟨t,rfl⟩:=ri
 obtain ⟨its,n,r,ho,hz⟩:=I.lst hp
 obtain ⟨h1,h2,h3,h4⟩:=zk0 hj
 have hl:=r.length
 have hn:=zh3
 have I':Inv X pins σ (upd H p (.lst (xs.set j v))) {s with heap:=s.heap.update p (Obj.mapSeq (·.setIfInBounds j u))}:=
  I.lstUpd hp ho (ziW its n j u) (r.set rv j) (by rw [qaI];exact hz) s.toks
 by_cases h0:0<=k
 ·have hk:k.toNat=j:=by
   rw [seqIndex_of h0 h4] at h1
   exact Option.some.inj h1
  exact W.ki_setAt ho h0 (by omega) (by rw [qaA, <-hl];exact h4) (by rw [hk];exact ⟨_,I',q⟩)
 ·have hk:(k+(its.toArray.size:Int)).toNat=j:=by
   rw [seqIndex_neg (by omega) h3] at h1
   rw [qaA, <-hl]
   exact Option.some.inj h1
  exact W.ki_setBack ho (by omega) (by rw [qaA, <-hl];exact h3) (by omega) (by rw [hk];exact ⟨_,I',q⟩)
theorem zgB:zaZ X (.builtin "len") (fun xs H Q=> ∃ p ys,xs=[.ref p]/\(SqL X.K H p ys\/SqT X.K H p ys)/\Q (.int ys.length) H):=by
 intro pins s σ H xs us Q I r h
 obtain ⟨p,ys,rfl,hq,q⟩:=h
 obtain ⟨u,rfl,rx⟩:=zef r
 cases rx
 have hn:=zh3
 rcases hq with hq | hq
 ·obtain ⟨its,r',pl,hz⟩:=I.list hq
  have hlen:=r'.length
  exact Calls.call_len_list pl.isList (by simp only [qaA]<;>omega) ⟨.int ys.length,H,I.tok _,⟨s.toks+1,by rw [qaA,hlen]⟩,q⟩
 ·obtain ⟨its,r',pl,hz⟩:=I.tuple hq
  have hlen:=r'.length
  exact len_tuple pl (by simp only [qaA]<;>omega) ⟨.int ys.length,H,I.tok _,⟨s.toks+1,by rw [qaA,hlen]⟩,q⟩
theorem zfJ:zaZ X (.type "tuple") (fun xs H Q=> ∃ p ys,xs=[.ref p]/\((SqL X.K H p ys/\ ∀ l,H l=none->Q (.ref l) (upd H l (.tup ys)))\/(SqT X.K H p ys/\Q (.ref p) H))):=by
 intro pins s σ H xs us Q I r h
 obtain ⟨p,ys,rfl,h⟩:=h
 obtain ⟨u,rfl,rx⟩:=zef r
 cases rx
 rcases h with ⟨hq,q⟩ | ⟨hq,q⟩
 ·obtain ⟨its,r',pl,hz⟩:=I.list hq
  have hlen:=r'.length
  refine call_tuple_list pl.isList (fun h' kp=> ?_) (by simp only [qaA]<;>omega)
  have I1:Inv X pins σ H {s with heap:=h'}:=I.kept (t':=s.toks) kp
  have I2:Inv X pins σ (upd H h'.objs.size (.tup ys)) {s with heap:=h'.push {cls:= .type "tuple",data:= .seq its.toArray}}:=
   I1.laid (t':=s.toks) (fun b o e=>qag _ e) (qaV _) (show zbz X.prog X.w _ _ _ (.tup ys) from ⟨hz,its,r',zi2.new _ _⟩)
  exact ⟨.ref h'.objs.size,_,I2,rfl,q _ (I1.hok.fresh (qaV _))⟩
 ·obtain ⟨its,r',pl,hz⟩:=I.tuple hq
  exact call_tuple_same pl ⟨.ref p,H,I,rfl,q⟩
def tyV (K:W.Frag) (T:String) (x:V) (H:Hp):Prop:=match x with
 | .str _=>T="str"
 | .int _=>T="int"
 | .ref p=>(T="list"/\ ∃ xs,SqL K H p xs)\/(T="tuple"/\ ∃ xs,SqT K H p xs)\/
   (T="dict"/\((∃ kvs,H p=some (.dK kvs))\/ ∃ kvs,H p=some (.dT kvs)))\/(T="set"/\ ∃ S n,H p=some (.set S n))
 | _=>False
theorem zpK {pins:List (Addr×Obj)} {σ:St} {H:Hp} {s:Shared} {T:String} {x:V} {v:Value} (I:Inv X pins σ H s) (r:zby x v) (ty:tyV X.K T x H):
  s.TypeIs v T/\ ∀ a,v= .ref a-> ∃ ob,s.heap.get? a=some ob/\ob.dict=none:=by
 cases x with
 | str z=>
  obtain ⟨t,rfl⟩:=r
  cases (show T="str" from ty)
  exact ⟨typeIs_str s z t,fun _ e=>nomatch e⟩
 | int i=>
  obtain ⟨t,rfl⟩:=r
  cases (show T="int" from ty)
  exact ⟨typeIs_int s i t,fun _ e=>nomatch e⟩
 | ref p=>
  cases r
  rcases ty with ⟨rfl,xs,hq⟩ | ⟨rfl,xs,hq⟩ | ⟨rfl,hk⟩ | ⟨rfl,S,n,hk⟩
  ·obtain ⟨its,_,pl,_⟩:=I.list hq
   refine ⟨pl.isList.typeIs,fun a e=> ?_⟩
   cases e
   obtain ⟨o,n,e,c,hd,_⟩:=pl
   exact ⟨o,e,hd⟩
  ·obtain ⟨its,_,⟨o,e,c,n,_,hd⟩,_⟩:=I.tupleD hq
   refine ⟨⟨o,e,c⟩,fun a e2=> ?_⟩
   cases e2
   exact ⟨o,e,hd⟩
  ·have z: ∃ o,s.heap.get? p=some o/\o.ExactDict:=by
    rcases hk with ⟨kvs,hk⟩ | ⟨kvs,hk⟩
    ·obtain ⟨_,_,_,_,o,_,_,e,ex,_⟩:=I.hok p _ hk
     exact ⟨o,e,ex⟩
    ·obtain ⟨_,_,_,_,o,_,_,e,ex,_⟩:=I.hok p _ hk
     exact ⟨o,e,ex⟩
   obtain ⟨o,e,ex⟩:=z
   refine ⟨⟨o,e,ex.1⟩,fun a e2=> ?_⟩
   cases e2
   exact ⟨o,e,ex.2.1⟩
  ·obtain ⟨o,_,_,_,e,ex,_⟩:=I.hok p _ hk
   refine ⟨⟨o,e,ex.1⟩,fun a e2=> ?_⟩
   cases e2
   exact ⟨o,e,ex.2.1⟩
 | _=>exact qa0 ty
noncomputable def tBM (K:W.Frag) (T:String) (r:V->List V->Hp->VK->Prop) (to:TE) (t:TA):TE:=fun σ H Q=>to σ H fun x H1=>tyV K T x H1/\t σ H1 fun xs H2=>r x xs H2 Q
variable {o e:Expr} {es:List Expr} {to:TE} {t:TA} {name:Str} {apos cpos:Pos} {T id:String} {r:V->List V->Hp->VK->Prop}
theorem zlQ (pa:PlainAttrs T) (slot:Slot T name id) (hty:typeOf (.builtin id)=pure (.type "method_descriptor")) (hm:MtR X id r) (ho:PE X o to) (ha:PA X (e::es) t)
  (hbase:attributeBase o name X.env (eval o X.env)=eval o X.env:=by rfl)
  (hfew:((backTo cpos (starEach (e::es) X.env)).all (fun x=> !x.1) && (backToKw cpos (keywordEach [] X.env)).all (fun x=>x.1.isSome)
    && decide ((e::es).length+([]:List Keyword).length+(if ([]:List Keyword).isEmpty then 0 else 1)<30))=true:=by rfl)
  (hline:(apos.endLine==cpos.line)=true:=by rfl) (hs:starEach (e::es) X.env=(false,eval e X.env)::starEach es X.env:=by rfl) (hplain:(backTo cpos (starEach es X.env)).any (·.1)=false:=by rfl):
  PE X (.Call (.Attribute o name apos) (e::es) [] cpos) (tBM X.K T r to t):=by
 intro pins s σ H Q I h
 refine wpAny_Call_method_late hbase hfew hline rfl (thn (ho pins s σ H _ I h) fun v s1 ⟨x,H1,I1,r1,ty,q1⟩=> ?_)
 obtain ⟨h1,h2⟩:=zpK I1 r1 ty
 refine ⟨T,id,pa,slot,hty,h1,h2,?_⟩
 have hA:=ha cpos pins s1 σ H1 _ I1 q1
 rw [hs] at hA ⊢
 refine Calls.callWith_builtin (by show (false || (backTo cpos (starEach es X.env)).any (·.1))=false;rw [hplain]<;>rfl) (Calls.evalArgs_plain ?_)
 exact thn hA fun us s2 ⟨vs,H2,I2,r2,q2⟩=>hm pins s2 σ H2 x vs v us Q I2 r1 r2 q2
end
def MtM (X:Cx) (id:String) (r:V->List V->Hp->VK->Prop):Prop:=
 ∀ (pins:List (Addr×Obj)) (s:Shared) (σ:St) (H:Hp) (x:V) (xs:List V) (v:Value) (us:List Value) (Q:VK),Inv X pins σ H s->zby x v->zbm xs us->r x xs H Q->
  wpAny (model X.prog X.w) X.A (call (.builtin id) (v::us)) (EP X pins σ Q) X.xe s
theorem zbm.one: ∀ {x:V} {us:List Value},zbm [x] us-> ∃ u,us=[u]/\zby x u
 | _,_,.cons r .nil=>⟨_,rfl,r⟩
theorem zbm.two: ∀ {x y:V} {us:List Value},zbm [x,y] us-> ∃ u v,us=[u,v]/\zby x u/\zby y v
 | _,_,_,.cons r (.cons q .nil)=>⟨_,_,rfl,r,q⟩
theorem zbm.rep {xs:List V} {us:List Value} (h:zbm xs us): ∀ k:Nat,zbm (List.replicate k xs).flatten (List.replicate k us).flatten
 | 0=> .nil
 | k+1=>by
  rw [List.replicate_succ,List.replicate_succ,List.flatten_cons,List.flatten_cons]
  exact zbm.append h (zbm.rep h k)
theorem zev (its:List Value): ∀ (k:Nat) (acc:List Value),
  List.foldl (fun x1 x2=>x1++x2) acc.toArray (List.replicate k its.toArray)=(acc++(List.replicate k its).flatten).toArray
 | 0,acc=>by simp
 | k+1,acc=>by
  have e:acc.toArray++its.toArray=(acc++its).toArray:=by simp
  have e2:(acc++its)++(List.replicate k its).flatten=acc++(List.replicate (k+1) its).flatten:=by
   rw [List.replicate_succ,List.flatten_cons,List.append_assoc]
  rw [<- e2, <-zev its k (acc++its), <-e,List.replicate_succ,List.foldl_cons]
section
variable {X:Cx} {pins:List (Addr×Obj)} {σ:St} {H:Hp} {s:Shared} {l b:Addr} {xs ys zs:List V}
theorem Inv.lset {its its':List Value} {n:Nat} {f:Array Value->Array Value} {t':Nat} (I:Inv X pins σ H s) (hH:H l=some (.lst xs))
  (e:s.heap.get? l=some {cls:= .type "list",data:= .seq its.toArray n}) (hf:f its.toArray=its'.toArray) (hv:zbm ys its') (hz:ys.length<=sizeLine):
  Inv X pins σ (upd H l (.lst ys)) {s with heap:=s.heap.update l (Obj.mapSeq f),toks:=t'}:=by
 have q:=PySem.IsL.update e f
 rw [hf] at q
 refine I.write (x:=l) (e:=l) (by rw [hH];exact trivial) (.inl rfl) (fun b' u hb hu=>(qah s.heap (Obj.mapSeq f) (Ne.symm hb)).trans hu) ⟨_,q⟩ ?_
 exact ⟨hz,its',_,hv,q⟩
theorem Inv.lnew {its:List Value} {t':Nat} (I:Inv X pins σ H s) (hv:zbm ys its) (hz:ys.length<=sizeLine):
  Inv X pins σ (upd H s.heap.objs.size (.lst ys)) {s with heap:=s.heap.push {cls:= .type "list",data:= .seq its.toArray},toks:=t'}:=
 I.laid (fun _ _ q=>qag _ q) (qaV _) ⟨hz,its,0,hv,qar _ rfl⟩
theorem Inv.fresh (I:Inv X pins σ H s):H s.heap.objs.size=none:=I.hok.fresh (qaV _)
theorem Inv.lstM (I:Inv X pins σ H s) (hH:H l=some (.lst xs)):xs.length<=sizeLine/\ ∃ (its:List Value) (n:Nat),zbm xs its/\xs.length=its.length/\s.heap.get? l=some {cls:= .type "list",data:= .seq its.toArray n}:=by
 obtain ⟨z,its,n,r,e⟩:=I.hok l _ hH
 exact ⟨z,its,n,r,r.length,e⟩
theorem zh4 {n:Nat} (h:n<=sizeLine):Builtin.List.listTooLong n=false:=by
 unfold Builtin.List.listTooLong
 exact decide_eq_false (by omega)
end
section
variable {X:Cx}
noncomputable def znX:V->List V->Hp->VK->Prop:=fun x vs H Q=> ∃ l xs y,x= .ref l/\vs=[y]/\H l=some (.lst xs)/\xs.length<sizeLine/\Q .non (upd H l (.lst (xs++[y])))
theorem zgO:MtM X "list.append" znX:=by
 intro pins s σ H x vs v us Q I rx rv h
 obtain ⟨l,xs,y,rfl,rfl,hH,hz,q⟩:=h
 cases rx
 obtain ⟨u,rfl,ru⟩:=rv.one
 obtain ⟨z,its,n,r,hl,e⟩:=I.lstM hH
 refine call_meets F.slot_list_append ⟨_,e,rfl⟩ F.entry_list_append (F.args_list_append_2 _ _) (PySem.list_append l its.toArray n u (by rw [qaA];omega)) ⟨e,?_⟩
 refine ⟨.non,_,I.lset (its':=its++[u]) hH e (by simp) (r.append (.cons ru .nil)) ?_,rfl,q⟩
 rw [qav,List.length_singleton]
 omega
noncomputable def zuG:R2:=fun x y H Q=> ∃ l b xs zs,x= .ref l/\y= .ref b/\H l=some (.lst xs)/\H b=some (.lst zs)/\xs.length+zs.length<=sizeLine/\ ∀ p,H p=none->Q (.ref p) (upd H p (.lst (xs++zs)))
theorem zrM:OpR X (binaryOp .Add) zuG:=by
 intro pins s σ H x y v u Q I rx ry h
 obtain ⟨l,b,xs,zs,rfl,rfl,hH,hB,hz,q⟩:=h
 cases rx
 cases ry
 obtain ⟨z,its,n,r,hl,e⟩:=I.lstM hH
 obtain ⟨z2,its2,n2,r2,hl2,e2⟩:=I.lstM hB
 refine PySem.P.add_list e e2 ?_ (by rw [qaA,qaA];omega)
 have ea:its.toArray++its2.toArray=(its++its2).toArray:=by simp
 rw [ea]
 exact ⟨.ref _,_,I.lnew (t':=s.toks) (r.append r2) (by rw [qav];omega),rfl,q _ I.fresh⟩
noncomputable def zuv:R2:=fun x y H Q=> ∃ l k xs,x= .ref l/\y= .int k/\H l=some (.lst xs)/\ -(2^63)<=k/\k<2^63/\xs.length*k.toNat<=sizeLine/\
 ∀ p,H p=none->Q (.ref p) (upd H p (.lst (List.replicate k.toNat xs).flatten))
theorem zjA {α:Type} (xs:List α) (k:Nat):(List.replicate k xs).flatten.length=k*xs.length:=by
 induction k with
 | zero=>simp
 | succ k ih=>rw [List.replicate_succ,List.flatten_cons,qav,ih,Nat.succ_mul,Nat.add_comm]
theorem zre:OpR X (binaryOp .Mult) zuv:=by
 intro pins s σ H x y v u Q I rx ry h
 obtain ⟨l,k,xs,rfl,rfl,hH,h1,h2,hz,q⟩:=h
 cases rx
 obtain ⟨t,rfl⟩:=ry
 obtain ⟨z,its,n,r,hl,e⟩:=I.lstM hH
 have hlen:its.toArray.size*k.toNat<=sizeLine:=by rw [qaA, <-hl];exact hz
 have hcap: ¬its.toArray.size*k.toNat>(2^63 - 1) / 8:=by
  have:(sizeLine:Nat)<=(2^63 - 1) / 8:=by decide
  omega
 have hfit: ¬(!Builtin.List.listFitsIndex k)=true:=by
  rw [fitsIndex_both h1 h2]
  exact Bool.false_ne_true
 have hlong: ¬Builtin.List.listTooLong (its.toArray.size*k.toNat)=true:=by
  rw [zh4 hlen]
  exact Bool.false_ne_true
 have hnew:List.foldl (fun x1 x2=>x1++x2) #[] (List.replicate (if its.toArray.isEmpty=true then 0 else k.toNat) its.toArray)=(List.replicate k.toNat its).flatten.toArray:=by
  have f0: ∀ m:Nat,List.foldl (fun x1 x2=>x1++x2) #[] (List.replicate m its.toArray)=(List.replicate m its).flatten.toArray:=fun m=>by
   have:=zev its m []
   rw [List.nil_append] at this
   exact this
  rw [f0]
  cases its with
  | nil=>simp
  | cons a r'=>rw [qa5 (by simp)]
 refine wpAny_binaryOp_repeat_ref (T:="list") (U:="int") (by decide) ⟨_,e,rfl⟩ (fun s'=>typeIs_int s' k t) noFill_list_mul F.fills_int_mul F.slot_int_rmul repeat_list F.slot_int_index.lookup
  (call_meets F.slot_int_rmul (typeIs_int s k t) F.entry_int_rmul (F.args_int_rmul_2 _ _) (int___rmul___int_list k t l its.toArray n)
    ⟨e,rfl,⟨_,e,rfl⟩,call_meets F.slot_list_mul ⟨_,e,rfl⟩ F.entry_list_mul (F.args_list_mul_2 _ _) (AutoListH.list___mul___list_int_3 l its.toArray n k t hfit hcap hlong) ⟨e,?_⟩⟩)
 rw [hnew]
 exact ⟨.ref _,_,I.lnew (t':=s.toks) (r.rep k.toNat) (by rw [zjA,Nat.mul_comm];exact hz),rfl,q _ I.fresh⟩
end
section
variable {prog:Program} {w:World} {A:Around} {E:Value->Shared->Prop} {s:Shared}
end
section
variable {X:Cx}
end
end L2
namespace Att
open PySem PySem.W PySem.Calls PyProof.Rows
theorem zeE {P:Params} {h:Heap}: ∀ (ns:List Int) (vs:List Value),WellAll P h vs (ns.map WData.int)->IntsAre vs ns:=by
 intro ns
 induction ns with
 | nil=>
  intro vs w
  rw [List.map_nil] at w
  cases w
  exact .nil
 | cons n ns ih=>
  intro vs w
  rw [qaM] at w
  cases w with
  | cons a b=>
   cases a
   exact .cons _ _ (ih _ b)
theorem zjo {l:OpenLaw} {n:Nat} (hn:l.most=some n) {P:Params} {h:Heap} {args:List WData} {vals:List Value}
  (hpre:l.row.toRowW.claim.pre args=true) (hwl:WellAll P h vals args):
  ∃ a vs ns,vals=[Value.ref a]/\args=[WData.list (ns.map WData.int)]/\h.get? a=some {cls:= .type "list",data:= .seq vs.toArray}/\IntsAre vs ns/\ns.length<=n:=by
 have hsh:WShape.hasAll [] args [.list .int]=true:=(pre_splitW hpre).1
 have hc:l.pre.holds [] {args:=args}=true:=(pre_splitW hpre).2
 obtain ⟨d,r,rfl,h1,h2⟩:=hasAllW_cons hsh
 obtain rfl:=hasAllW_nil h2
 obtain ⟨xs,rfl,h3⟩:=hasW_list h1
 obtain ⟨ns,rfl⟩:=items_int h3
 have hlen:ns.length<=n:=by
  unfold OpenLaw.pre at hc
  have h4:(WTm.not (.lt (.lit (.int (n:Int))) (.len (.arg 0)))).holds [] {args:=[.list (ns.map .int)]}=true:=by
   have h4:=(holds_andW hc).1
   rw [hn] at h4
   exact h4
  have h5:=condW_of h4 (w_not (w_lt w_lit (w_len_list (w_arg rfl))))
  rw [qaH] at h5
  refine Nat.le_of_not_lt fun q=> ?_
  have q':(n:Int)<((ns.length:Nat):Int):=by omega
  first
   | (rw [decide_eq_true q'] at h5;exact absurd h5 (by decide))
   | (simp at h5;omega)
 cases hwl with
 | cons w1 w2=>
  cases w2
  cases w1 with
  | list ho hall=>exact ⟨_,_,ns,rfl,rfl,ho,zeE ns _ hall,hlen⟩
theorem zki (l:OpenLaw) (args:List WData):l.row.toRowW.claim.post args (.bool true) args=true:=
 postW_of (r:=l.row.toRowW) (X:=(true==true))
  (show WShape.has [] (.bool true) .bool=true by first | rfl | decide | simp [WShape.has,WShape.arms,WShape.armsAll])
  (show (WTm.eq .res (.lit (.bool true))).value [] {args:=args,res:=some (.bool true),after:=args}=some (.bool (true==true)) from w_eq_bool (w_res rfl) w_lit) rfl
theorem zg9 {l:OpenLaw} {n:Nat} {q:Program} {loose:List Str} {XP:(Str->Option Value)->Heap->Prop} {YP:World->Heap->Prop} {d:DefRec}
  (hn:l.most=some n) (hdf:d.params.defaults=[])
  (call: ∀ (w:World) (s₀ s₁:Shared) (mg mb:Str->Option Value) (fa:Addr) (o:Obj) (pm cd doc:Value) (a:Addr) (vs:List Value) (ns:List Int),
    Ground q loose [] XP w s₀ mg mb s₁.heap->YP w s₁.heap->
    s₁.heap.get? fa=some o->o.data= .func (docDef d.name d.params d.body d.scope pm cd doc)->s₁.heap.CodeRec cd d.name->mg d.name=some (.ref fa)->
    s₁.heap.get? a=some {cls:= .type "list",data:= .seq vs.toArray}->IntsAre vs ns->ns.length<=n->s₁.gens= #[]->
    codeAny (model l.prog w) callerA (.call (.ref fa) ⟨[.ref a],[]⟩) (fun r s'=>r= .ok (.ret (.bool true))/\OldK s₁.heap s'.heap/\s'.os=s₁.os/\AllBare s'.gens) s₁):
  WalkO q loose XP YP l.row.toRowW d [] (fun f vs=>PySem.call f vs):=by
 intro w s₀ s₁ mg mb G Y fa o pm cd doc dV kV ho hd hcd hD hmg hg args vals as hpre hlay hrd hwl hlo
 obtain rfl:dV= .none:=Dflts.none hD hdf
 obtain rfl:kV= .none:=Dflts.noKw hD
 obtain ⟨a,vs,ns,rfl,rfl,hobj,hints,hlen⟩:=zjo hn hpre hwl
 refine enter_call (codeAny_mono (call w s₀ s₁ mg mb fa o pm cd doc a vs ns G Y ho (fd_plain hd) hcd hmg hobj hints hlen hg) fun r s' hq=> ?_)
 obtain ⟨rfl,h2,h3,h4⟩:=hq
 exact ⟨.inl ⟨.bool true,.bool true,[],rfl,fun _=>rfl,.bool true,zki l _,fun _=>⟨List.Pairwise.nil,fun _ hm=>(nomatch hm)⟩⟩,h2,h3,h4⟩
section
variable {prog:Program} {w:World} {A:Around} {E:Value->Shared->Prop} {s:Shared} {K:Frag}
end
end Att
namespace L2
open PySem PySem.Spec PyProof.Rows
theorem zet: ∀ {vs:List Value} {ns:List Int},IntsAre vs ns->zbm (ns.map V.int) vs
 | _,_,.nil=> .nil
 | _,_,.cons n t h=> .cons ⟨t,rfl⟩ (zet h)
def ztW (H:Hp):Prop:= ∀ b,H b=none\/ ∃ o xs,H b=some (.frz o (.lst xs))
theorem zly {P:Program} {w:World} {K:W.Frag} {mg mb:Str->Option Value} {CX:CXT} {k:Nat} {fa a:Addr} {fd:FuncData} {x:Str} {sp:Sp} {s₁:Shared} {vs:List Value} {ns:List Int}
  (KX:K.In s₁.heap) (hns:s₁.heap.Ns mainGlobals mg) (hb:s₁.heap.Ns builtinsNs mb) (hbb: ∀ x:Str,x≠"__name__"->mb x=bootBuiltins x) (hlim:s₁.heap.NoLimit) (hg:s₁.gens= #[])
  (ha:s₁.heap.get? a=some {cls:= .type "list",data:= .seq vs.toArray}) (hi:IntsAre vs ns) (hl:ns.length<=sizeLine) (hr:zdN k callerA)
  (F: ∀ base:Heap,K.In base->base.Ns mainGlobals mg->zb6 P w K mg base CX k fa fd [x] sp) (hbind: ∀ (s:Shared) (u:Value),BindsTo s fd ⟨[u],[]⟩ [(x,u)])
  (hsp: ∀ H:Hp,ztW H->SqL K H a (ns.map V.int)->sp [.ref a] H (fun v _=>v= .bl true) fun _ _ _=>False)
  (hCX: ∀ H e s',CX [] H s₁ (fun _ _ _=>False) e s'->False):
  codeAny (model P w) callerA (.call (.ref fa) ⟨[.ref a],[]⟩) (fun r s'=>r= .ok (.ret (.bool true))/\OldK s₁.heap s'.heap/\s'.os=s₁.os/\AllBare s'.gens) s₁:=by
 have rv:=zet hi
 have lenV:=hi.length
 have core: ∀ H:Hp,ztW H->SqL K H a (ns.map V.int)->HOk P w H s₁.heap->(∀ b,H b≠none->b=a)->(H a≠none->K.lookup a=none)->
   codeAny (model P w) callerA (.call (.ref fa) ⟨[.ref a],[]⟩) (fun r s'=>r= .ok (.ret (.bool true))/\OldK s₁.heap s'.heap/\s'.os=s₁.os/\AllBare s'.gens) s₁:=by
  intro H hO hS hok hA hK
  have base_of: ∀ {b:Addr} {o:Obj},s₁.heap.get? b=some o->H b=none->(zlV s₁.heap H).get? b=some o:=fun e n=>zmd e n
  have noA: ∀ {b:Addr} {o:Obj} {es:Array DictEntry} {ep:Nat},s₁.heap.get? b=some o->o.data= .dict es ep->H b=none:=fun {b o es ep} e d=>by
   cases q:H b with
   | none=>rfl
   | some u=>
    have e':b=a:=hA b (by rw [q];simp)
    subst e'
    rw [ha] at e;cases e
    have d':Data.seq vs.toArray _=Data.dict es ep:=d
    cases d'
  have nsK: ∀ {b:Addr} {m:Str->Option Value},s₁.heap.Ns b m->(zlV s₁.heap H).Ns b m:=fun {b m} ⟨o,es,ep,e,d,r⟩=>⟨o,es,ep,base_of e (noA e d),d,r⟩
  have hKb:K.In (zlV s₁.heap H):=fun b o e=>base_of (KX b o e) (by
    cases q:H b with
    | none=>rfl
    | some u=>
      have e':b=a:=hA b (by rw [q];simp)
      subst e'
      rw [hK (by rw [q];simp)] at e;cases e)
  have hM:Mod K mg (zlV s₁.heap H):=⟨hKb,nsK hns,⟨mb,nsK hb,hbb⟩,let ⟨mc,h1,h2⟩:=hlim;⟨mc,nsK h1,h2⟩⟩
  have e0:zpB P w K mg (zlV s₁.heap H) callerA [] s₁ H:=⟨rfl,hM,fun b o e=>zoW e,Nat.le_of_eq (zkb _ _),trivial,fun b hb=>absurd (show b∈([]:List Addr) from hb) (by simp),hok,.of_eq hg,.inl rfl⟩
  refine codeAny_mono ((F _ hKb (nsK hns)).run callerA [] s₁ H ⟨[.ref a],[]⟩ [.ref a] [.ref a] _ _ hr e0 (hbind s₁ (.ref a)) (.cons rfl .nil) (hsp H hO hS)) fun r s' h=> ?_
  cases r with
  | error e=>exact (hCX H e s' h).elim
  | ok fl=>
   cases fl with
   | next=>exact qa0 h
   | brk=>exact qa0 h
   | cont=>exact qa0 h
   | ret u=>
    obtain ⟨v,H',os,bare,un,hok',r',q⟩:=h
    have q':v= .bl true:=q
    subst q'
    obtain rfl:u=Value.bool true:=r'
    refine ⟨rfl,OldK.of_keep fun b o e=> ?_,os,bare⟩
    cases q:H b with
    | none=>exact un.keep b o e q (by intro z;exact absurd (show b∈([]:List Addr) from z) (by simp)) (by simp)
    | some u=>
     rcases hO b with z | ⟨ob,xs,z⟩
     ·rw [q] at z;cases z
     ·have z2:=un.frzs b ob _ z
      obtain ⟨e1,_⟩:=hok b _ z
      obtain ⟨e2,_⟩:=hok' b _ z2
      rw [e] at e1;cases e1
      exact e2
 cases hk:K.lookup a with
 | some o=>
  have e:=KX a o hk
  rw [ha] at e
  cases e
  refine core (fun _=>none) (fun _=> .inl rfl) (.inr ⟨_,vs.toArray,_,hk,rfl,rfl,rfl,by rw [qaA,lenV];exact hl,by simpa using rv⟩) (fun b u z=>by have z':(none:Option HO)=some u:=z;cases z') (fun b z=>absurd rfl z) fun z=>absurd rfl z
 | none=>
  refine core (fun b=>if b=a then some (.frz {cls:= .type "list",data:= .seq vs.toArray} (.lst (ns.map V.int))) else none) (fun b=> ?_) (.inl (.inr ⟨{cls:= .type "list",data:= .seq vs.toArray},qa4 rfl⟩)) (fun b u z=> ?_) (fun b z=> ?_) fun _=>hk
  ·by_cases hb:b=a
   ·exact .inr ⟨_,_,qa4 hb⟩
   ·exact .inl (qa5 hb)
  ·by_cases hb:b=a
   ·have z':=(qa4 hb).symm.trans z
    cases z'
    subst hb
    exact ⟨ha,by rw [qaH];exact hl,vs,_,rv,ha⟩
   ·have z':=(qa5 hb).symm.trans z
    cases z'
  ·by_cases hb:b=a
   ·exact hb
   ·exact absurd (qa5 hb) z
theorem zow {l:W.OpenLaw} {n k:Nat} {q:Program} {loose:List Str} {XP:(Str->Option Value)->Heap->Prop} {YP:World->Heap->Prop} {d:DefRec} {K:Params->W.Frag} {CX:World->CXT} {sp:World->Sp} {x:Str}
  (hn:l.most=some n) (hn2:n<=sizeLine) (hdf:d.params.defaults=[]) (hr:zdN k callerA)
  (hY: ∀ (w:World) (h:Heap),YP w h->(K w.params).In h)
  (F: ∀ (w:World) (mg:Str->Option Value) (fa:Addr) (h:Heap),(K w.params).In h->h.Ns mainGlobals mg->mg d.name=some (.ref fa)->
    ∃ fd:FuncData,(∀ (s:Shared) (u:Value),BindsTo s fd ⟨[u],[]⟩ [(x,u)])/\
      ∀ base:Heap,(K w.params).In base->base.Ns mainGlobals mg->zb6 l.prog w (K w.params) mg base (CX w) k fa fd [x] (sp w))
  (hsp: ∀ (w:World) (H:Hp) (a:Addr) (ns:List Int),ns.length<=n->ztW H->SqL (K w.params) H a (ns.map V.int)->sp w [.ref a] H (fun v _=>v= .bl true) fun _ _ _=>False)
  (hCX: ∀ (w:World) (H:Hp) (s:Shared) (e:Value) (s':Shared),CX w [] H s (fun _ _ _=>False) e s'->False):
  W.WalkO q loose XP YP l.row.toRowW d [] (fun f vs=>PySem.call f vs):=by
 refine Att.zg9 hn hdf fun w s₀ s₁ mg mb fa o pm cd doc a vs ns G Y ho hd hcd hmg hobj hints hlen hg=> ?_
 have KX:=hY w _ Y
 obtain ⟨fd,hb,hF⟩:=F w mg fa _ KX G.T.g hmg
 exact zly KX G.T.g G.T.b G.T.builtins G.T.nolimit hg hobj hints (qaS hlen hn2) hr hF hb (fun H hO hS=>hsp w H a ns hlen hO hS) fun H e s'=>hCX w H s₁ e s'
noncomputable def zdT (s:Stmt):Arguments:=match s with
 | .FunctionDef _ a _ _ _ _ _ _ _ _=>a
 | _=>{posonlyargs:=[],args:=[],vararg:=none,kwonlyargs:=[],kw_defaults:=[],kwarg:=none,defaults:=[]}
noncomputable def zcq (s:Stmt):List Stmt:=match s with
 | .FunctionDef _ _ b _ _ _ _ _ _ _=>b
 | _=>[]
noncomputable def zae (s:Stmt):Scope:=match s with
 | .FunctionDef _ _ _ _ _ _ sc _ _ _=>sc
 | _=>{kind:= .function,names:=[],isGenerator:=false,isCoroutine:=false}
noncomputable abbrev CX0:CXT:=fun _ _ _ _ _ _=>False
noncomputable abbrev E0:XK:=fun _ _ _=>False
theorem zqm {X:Cx}:zdA CX0 X E0:=fun _ _ _ _ _ _ _ h=>h.elim
structure Fun (K:W.Frag) (x qual:Str) (st:Stmt) (f:Addr) (fd:FuncData):Prop where
 ex: ∃ (oc:Value) (od:Option Addr) (kV doc pm:Value) (an:Option Addr) (cdv ct:Value) (osl:Array (Option Value)),
  fd=W.fnOf x qual (zdT st) (zcq st) (zae st) .none kV doc pm an cdv ct/\K.lookup f=some ⟨oc,od,.func fd,osl⟩/\W.codeIn K cdv qual=true
 kp:W.keepIn K (.ref f)=true
section
variable {P:Program} {w:World} {K:W.Frag} {mg:Str->Option Value} {base:Heap}
theorem Fun.ok {x qual:Str} {st:Stmt} {f:Addr} {fd:FuncData} {N ps:List Str} {k:Nat} {sp:Sp} (F:Fun K x qual st f fd) (S:zau N ps (zae st)) (len: ∀ vs H Q E,sp vs H Q E->vs.length=ps.length)
  (hbody: ∀ (cdv:Value) (A:Around) (outer:List Env) (s:Shared) (H:Hp) (vs:List V) (Q:VK) (E:XK),zdN k (A.deeper (envOfC qual (zae st) s.heap.objs.size f cdv))->sp vs H Q E->
    ∃ t,PSs (zg4 CX0 P w K mg base N qual (zae st) f cdv A outer s H E).nox (zcq st) t/\t {nx:=fun _ H'=>Q .non H',rt:=Q} (zdP N vs) H):zb6 P w K mg base CX0 (k+1) f fd ps sp:=by
 obtain ⟨oc,od,kV,doc,pm,an,cdv,ct,osl,rfl,lk,hcd⟩:=F.ex
 refine zrz lk hcd S len fun A outer s H vs Q E hr hsp=> ?_
 obtain ⟨t,h,q⟩:=hbody cdv A outer s H vs Q E hr hsp
 exact ⟨t,h.nox,q⟩
theorem Fun.binds {x qual:Str} {st:Stmt} {f:Addr} {fd:FuncData} {ps:List Str} (F:Fun K x qual st f fd)
  (h: ∀ (kV doc pm:Value) (an:Option Addr) (cdv ct:Value) (us:List Value),us.length=ps.length->bindArgs (W.fnOf x qual (zdT st) (zcq st) (zae st) .none kV doc pm an cdv ct) ⟨us,[]⟩=pure (ps.zip us)):zaS K fd ps []:=by
 obtain ⟨oc,od,kV,doc,pm,an,cdv,ct,osl,rfl,lk,hcd⟩:=F.ex
 exact .all (h kV doc pm an cdv ct)
theorem zaU {x qual:Str} {st:Stmt} {f:Addr} {oc:Value} {od an:Option Addr} {osl:Array (Option Value)} {kV doc pm cdv ct:Value} (l:K.lookup f=some ⟨oc,od,.func (W.fnOf x qual (zdT st) (zcq st) (zae st) .none kV doc pm an cdv ct),osl⟩)
  (c:W.codeIn K cdv qual=true) (k:W.keepIn K (.ref f)=true):Fun K x qual st f (W.fnOf x qual (zdT st) (zcq st) (zae st) .none kV doc pm an cdv ct):=⟨⟨oc,od,kV,doc,pm,an,cdv,ct,osl,rfl,l,c⟩,k⟩
end
section
variable {X:Cx}
theorem pv (i:Nat) {x:Str} {pos:Pos} (hN:X.N[i]? = some x:=by rfl) (hv:Vis X.env.scope x:=by first | exact Or.inl rfl | exact Or.inr (Or.inl rfl) | exact Or.inr (Or.inr rfl)) (hd:(x==("__debug__":Str))=false:=by decide)
  (hcd:(x==("__classdict__":Str))=false:=by decide):PE X (.Name x pos) (zub i):=zm8 hN hv hd hcd
end
theorem zm5 {A B:Prop} (h:B):if false=true then A else B:=by
 rw [qa5 Bool.false_ne_true]
 exact h
theorem znw {A B:Prop} (h:A):if true=true then A else B:=by
 rw [qa4 rfl]
 exact h
noncomputable def zbr (cells:List (Str×Addr)):List (Str×NameKind)->List (Str×Addr)->List (Str×Addr)
 | [],acc=>acc
 | (n,k)::r,acc=>if k== .free then zbr cells r ((n,(cells.lookup n).getD 0)::acc) else zbr cells r acc
theorem zdI {scope:Scope} {env:Env} (h: ∀ x∈scope.names,x.2= .free-> ∃ c,env.cells.lookup x.1=some c):closureFor scope env=pure (zbr env.cells scope.names []):=by
 simp only [closureFor]
 generalize hn:scope.names=names at h
 clear hn
 generalize hacc:([]:List (Str×Addr))=acc
 clear hacc
 have key: ∀ (names:List (Str×NameKind)) (acc:List (Str×Addr)),(∀ x∈names,x.2= .free-> ∃ c,env.cells.lookup x.1=some c)->
   (forIn (m:=Sem) names acc fun (x:Str×NameKind) (r:List (Str×Addr))=>(match x with
     | (name,kind)=>if (kind==NameKind.free)=true then do
         let a<-cellOf env name
         pure (ForInStep.yield ((name,a)::r))
       else pure (ForInStep.yield r)))=pure (zbr env.cells names acc):=by
  intro names
  induction names with
  | nil=>intro acc _;rfl
  | cons x r ih=>
   intro acc h
   obtain ⟨n,k⟩:=x
   rw [List.forIn_cons]
   unfold zbr
   by_cases hk:(k==NameKind.free)=true
   ·simp only [hk,if_true]
    obtain ⟨c,hc⟩:=h (n,k) qau (by simpa using hk)
    have e:cellOf env n=pure c:=by unfold cellOf;rw [show env.cells.lookup n=some c from hc]
    rw [e,show (env.cells.lookup n).getD 0=c by rw [show env.cells.lookup n=some c from hc];rfl]
    exact ih _ fun y hy=>h y (qan _ hy)
   ·simp only [hk,if_false]
    exact ih _ fun y hy=>h y (qan _ hy)
 have k:=key names acc h
 refine Eq.trans (congrArg (fun (z:Sem (List (Str×Addr)))=>z>>=fun r=>pure r) k) ?_
 rfl
theorem zdX {cells:List (Str×Addr)}: ∀ {names:List (Str×NameKind)} {acc:List (Str×Addr)} {n:Str} {c:Addr},(n,c)∈zbr cells names acc->
  (n,c)∈acc\/((n,NameKind.free)∈names/\c=(cells.lookup n).getD 0)
 | [],_,_,_,h=> .inl h
 | (y,k)::r,acc,n,c,h=>by
  unfold zbr at h
  by_cases hk:(k==NameKind.free)=true
  ·rw [qa4 hk] at h
   have ek:k= .free:=by simpa using hk
   subst ek
   rcases zdX h with h | ⟨h1,h2⟩
   ·rcases qaP.mp h with e | h
    ·cases e
     exact .inr ⟨qau,rfl⟩
    ·exact .inl h
   ·exact .inr ⟨qan _ h1,h2⟩
  ·rw [qa5 hk] at h
   rcases zdX h with h | ⟨h1,h2⟩
   ·exact .inl h
   ·exact .inr ⟨qan _ h1,h2⟩
theorem zdd {cells:List (Str×Addr)} {x:Str} {c:Addr} (hc:cells.lookup x=some c): ∀ (names:List (Str×NameKind)) (acc:List (Str×Addr)),((x,NameKind.free)∈names\/acc.lookup x=some c)->(zbr cells names acc).lookup x=some c
 | [],acc,h=>h.elim (fun z=>nomatch z) id
 | (y,k)::r,acc,h=>by
  unfold zbr
  by_cases hk:(k==NameKind.free)=true
  ·rw [qa4 hk]
   refine zdd hc r _ ?_
   by_cases hy:x=y
   ·subst hy
    exact .inr (by rw [List.lookup_cons,beq_self_eq_true,hc];rfl)
   ·rcases h with h | h
    ·rcases qaP.mp h with e | h
     ·cases e;exact absurd rfl hy
     ·exact .inl h
    ·refine .inr ?_
     rw [List.lookup_cons,show (x==y)=false by simpa using hy]
     exact h
  ·rw [qa5 hk]
   refine zdd hc r _ ?_
   rcases h with h | h
   ·rcases qaP.mp h with e | h
    ·cases e;exact absurd rfl hk
    ·exact .inl h
   ·exact .inr h
theorem zcJ: ∀ {names:List (Str×NameKind)} {n:Nat} {acc:List (Str×Addr)} {x:Str} {c:Addr},(x,c)∈cellsFrom n names acc->(x,c)∈acc\/(n<=c/\(x,NameKind.cell)∈names)
 | [],_,_,_,_,h=> .inl h
 | (y,k)::r,n,acc,x,c,h=>by
  unfold cellsFrom at h
  by_cases hk:(k==NameKind.cell)=true
  ·rw [qa4 hk] at h
   have ek:k= .cell:=by simpa using hk
   subst ek
   rcases zcJ h with h | ⟨h,h'⟩
   ·rcases qaP.mp h with e | h
    ·cases e;exact .inr ⟨qaV _,qau⟩
    ·exact .inl h
   ·exact .inr ⟨Nat.le_of_succ_le h,qan _ h'⟩
  ·rw [qa5 hk] at h
   rcases zcJ h with h | ⟨h,h'⟩
   ·exact .inl h
   ·exact .inr ⟨h,qan _ h'⟩
theorem zb4 {x:Str} {c:Addr}: ∀ (names:List (Str×NameKind)) (n:Nat) (acc:List (Str×Addr)),(x,NameKind.cell)∉names->acc.lookup x=some c->(cellsFrom n names acc).lookup x=some c
 | [],_,_,_,h=>h
 | (y,k)::r,n,acc,hn,h=>by
  unfold cellsFrom
  by_cases hk:(k==NameKind.cell)=true
  ·rw [qa4 hk]
   have ek:k= .cell:=by simpa using hk
   subst ek
   refine zb4 r _ _ (fun z=>hn (qan _ z)) ?_
   have hy:x≠y:=fun e=>hn (by rw [e];exact qau)
   rw [List.lookup_cons,show (x==y)=false by simpa using hy]
   exact h
  ·rw [qa5 hk]
   exact zb4 r _ _ (fun z=>hn (qan _ z)) h
theorem zb1: ∀ (names:List (Str×NameKind)) (n:Nat) (acc:List (Str×Addr)),(∀ x c,(x,c)∈acc->c<n)->(acc.Pairwise fun x y=>x.2≠y.2)->(cellsFrom n names acc).Pairwise fun x y=>x.2≠y.2
 | [],_,_,_,h=>h
 | (y,k)::r,n,acc,hlt,h=>by
  unfold cellsFrom
  by_cases hk:(k==NameKind.cell)=true
  ·rw [qa4 hk]
   refine zb1 r (n+1) _ (fun x c hm=> ?_) (qay.mpr ⟨fun z hz e=> ?_,h⟩)
   ·rcases qaP.mp hm with e | hm
    ·cases e;exact Nat.lt_succ_self _
    ·exact Nat.lt_succ_of_lt (hlt x c hm)
   ·have:=hlt z.1 z.2 hz
    have e':n=z.2:=e
    exact qaN _ (e'▸this)
  ·rw [qa5 hk]
   exact zb1 r n acc hlt h
noncomputable def znM (env:Env) (scope:Scope) (C:Addr):Env:=
 {scope:=relabel scope env,locals:=C,globals:=env.globals,cells:=cellsFrom (C+1) scope.names (zbr env.cells scope.names []),qual:=env.qual,func:=none,code:=env.code,frame:=env.frame,builtins:=env.builtins}
section
variable {M:Model} {A:Around} {E:Value->Shared->Prop} {s:Shared}
theorem ze2 {scope:Scope} {env:Env} {cl:List (Str×Addr)} {Q:Env->Shared->Prop}
  (hQ: ∀ h',(∀ b o,s.heap.get? b=some o->h'.get? b=some o)->h'.Ns s.heap.objs.size (fun _=>none)->(∀ x c,(x,NameKind.cell)∈scope.names->(x,c)∈cellsFrom (s.heap.objs.size+1) scope.names cl->(x,c)∉cl->h'.IsCell c none)->
    Q {scope,locals:=s.heap.objs.size,globals:=env.globals,cells:=cellsFrom (s.heap.objs.size+1) scope.names cl,qual:=env.qual,func:=none,code:=env.code,frame:=env.frame,builtins:=env.builtins} {s with heap:=h'}):
  wpAny M A (newFunctionEnv scope env.globals cl [] env.qual none .none (some env)) Q E s:=by
 simp only [newFunctionEnv,Option.isSome_some,if_true]
 refine qaW (wpAny_alloc ?_)
 refine qaW (wpAny_layCells _ (fun name kind cells=>by cases hkc:kind==NameKind.cell<;>simp [hkc]) _ _ _ _ ?_)
 simp only [List.forIn_nil]
 refine qaW (qaX (qaX ?_))
 rw [show ({s with heap:=s.heap.push {cls:= .type "dict",data:= .dict #[]}}:Shared).heap.objs.size=s.heap.objs.size+1 from qaL ..]
 have key: ∀ (names:List (Str×NameKind)) (h:Heap) (acc:List (Str×Addr)) (x:Str) (c:Addr),(x,c)∈cellsFrom h.objs.size names acc->(x,c)∉acc->(pushCells h names).IsCell c none:=by
  intro names
  induction names with
  | nil=>intro h acc x c hm hn;exact absurd hm hn
  | cons y r ih=>
   intro h acc x c hm hn
   obtain ⟨n,k⟩:=y
   unfold cellsFrom at hm
   unfold pushCells
   by_cases hk:(k==NameKind.cell)=true
   ·rw [qa4 hk] at hm ⊢
    by_cases hin:(x,c)∈((n,h.objs.size)::acc)
    ·rcases qaP.mp hin with e | e
     ·cases e
      exact ⟨_,pushCells_keeps _ _ _ _ (qar _ rfl),rfl⟩
     ·exact absurd e hn
    ·refine ih (h.push {cls:= .type "cell",data:= .cell none}) ((n,h.objs.size)::acc) x c ?_ hin
     rw [qaL]
     exact hm
   ·rw [qa5 hk] at hm ⊢
    exact ih h acc x c hm hn
 refine hQ _ (fun b o e=>pushCells_keeps _ _ b o (qag _ e)) ((Heap.Ns.new s.heap (.type "dict")).keeps (pushCells_keeps _ _)) fun x c _ hm hn=> ?_
 refine key scope.names _ cl x c ?_ hn
 rw [qaL]
 exact hm
end
section
variable {prog:Program} {w:World} {A:Around} {E:Value->Shared->Prop} {R:Result->Shared->Prop} {s:Shared}
theorem zgr {elt target iter:Expr} {ifs:List Expr} {scope:Scope} {pos:Pos} {it acc:Value} {env:Env} (I:Nat->Shared->Prop)
  (turn: ∀ n s,I n s->wpAny (model prog w) A (pyNext it) (fun r s₁=>match r with
    | none=>R (.ok .next) s₁
    | some v=>wpAny (model prog w) A (letOwnedTupleGo target it v) (fun _ s₁'=>wpAny (model prog w) A (assign target env v) (fun _ s₂=>
        wpAny (model prog w) A (forIn ifs true fun c r=>if r=true then do let ok<-isTrue c env (eval c env);pure (ForInStep.yield ok) else pure (ForInStep.yield r)) (fun ok s₃=>
          if ok=true then wpAny (model prog w) A (eval elt env) (fun x s₄=>
            wpAny (model prog w) A (call (.builtin "list.append") [acc,x]) (fun _ s₅=> ∃ m,m<n/\I m s₅) (fun _ _=>False) s₄) (fun _ _=>False) s₃
          else ∃ m,m<n/\I m s₃) (fun _ _=>False) s₂) (fun _ _=>False) s₁') (fun _ _=>False) s₁) (fun _ _=>False) s)
  (n:Nat) (h:I n s):
  codeAny (model prog w) A (.compLoop (.ListComp elt [⟨target,iter,ifs,0⟩] scope pos) 0 it acc env) R s:=by
 refine codeAny_loop rfl I (fun n s hI=> ?_) n h
 show wpAny _ A ((compTurn (.ListComp elt [⟨target,iter,ifs,0⟩] scope pos) 0 it acc env).onRaise (fun x=>do noteFrame x env;theTreesLotGoes x)) _ _ s
 refine wpAny_noted ?_
 rw [compTurn_list]
 refine qaW (wpAny_standAt (qaW (qaZ (turn n s hI) (fun r s₁ h₁=> ?_) fun _ _ h'=>h'.elim)))
 cases r with
 | none=>exact qaX h₁
 | some v=>
  refine qaW (qaZ h₁ (fun _ s₁' h₁'=> ?_) fun _ _ h'=>h'.elim)
  refine qaW (qaZ h₁' (fun _ s₂ h₂=>qaW (qaZ h₂ (fun ok s₃ h₃=> ?_) fun _ _ h'=>h'.elim)) fun _ _ h'=>h'.elim)
  cases ok with
  | false=>exact qaX ⟨rfl,h₃⟩
  | true=>
   exact qaW (qaW (qaZ h₃ (fun x s₄ h₄=>qaW (qaZ h₄ (fun _ s₅ h₅=>qaX (qaX ⟨rfl,h₅⟩)) fun _ _ h'=>h'.elim)) fun _ _ h'=>h'.elim))
end
noncomputable abbrev cxB (X:Cx) (scope:Scope) (N:List Str) (s:Shared) (H:Hp) (fp:List Addr):Cx:=
 {prog:=X.prog,w:=X.w,K:=X.K,mg:=X.mg,base:=X.base,A:=X.A,N:=N,s₀:=s,H₀:=H,env:=znM X.env scope s.heap.objs.size,outer:=X.stack,stack:=X.stack,ex:=fp,
   fn:=fun x=>scope.names.lookup x==some .cell,calm:=X.calm,pn:=[],xe:=fun _ _=>False}
noncomputable def zmX (Xn:List (Str×NameKind)) (XN:List Str) (names:List (Str×NameKind)) (N:List Str) (src:List (Option Nat)):Bool:=
 decide N.Nodup && decide (names.map (·.1)).Nodup && (src.length==N.length) &&
 names.all (fun x=>x.2 != .local || names.lookup x.1==some .local) &&
 names.all (fun x=>x.2 != .cell || names.lookup x.1==some .cell) &&
 names.all (fun x=>x.2 != .free || Xn.lookup x.1==some .cell || Xn.lookup x.1==some .free) &&
 (N.zip src).all (fun p=>match p.2 with
   | none=>true
   | some i=>XN[i]? == some p.1 && names.lookup p.1==some .free)
structure BOk (X:Cx) (scope:Scope) (N:List Str) (src:List (Option Nat)):Prop where
 kind:scope.kind= .function
 nd:N.Nodup
 keys:(scope.names.map (·.1)).Nodup
 len:src.length=N.length
 locs: ∀ x∈scope.names,x.2= .local->scope.names.lookup x.1=some .local
 cels: ∀ x∈scope.names,x.2= .cell->scope.names.lookup x.1=some .cell
 free: ∀ x∈scope.names,x.2= .free->X.env.kindOf x.1=some .cell\/X.env.kindOf x.1=some .free
 src: ∀ (k i:Nat) (x:Str),src[k]? = some (some i)->N[k]? = some x->X.N[i]? = some x/\scope.names.lookup x=some .free
theorem BOk.of {X:Cx} {scope:Scope} {N:List Str} {src:List (Option Nat)} {Xn:List (Str×NameKind)} {XN:List Str} (hk:scope.kind= .function) (hX:X.env.scope.names=Xn) (hN:X.N=XN)
  (h:zmX Xn XN scope.names N src=true):BOk X scope N src:=by
 unfold zmX at h
 simp only [qaG,qaD,List.all_eq_true,beq_iff_eq] at h
 obtain ⟨⟨⟨⟨⟨⟨h1,h2⟩,h3⟩,h4⟩,h4'⟩,h5⟩,h6⟩:=h
 refine ⟨hk,h1,h2,h3,fun x hx e=> ?_,fun x hx e=> ?_,fun x hx e=> ?_,fun k i x e1 e2=> ?_⟩
 ·have:=h4 x hx
  rw [e] at this
  simpa using this
 ·have:=h4' x hx
  rw [e] at this
  simpa using this
 ·have:=h5 x hx
  rw [e] at this
  unfold Env.kindOf
  rw [hX]
  simpa using this
 ·have hm:(x,some i)∈N.zip src:=by
   refine List.mem_iff_getElem?.mpr ⟨k,?_⟩
   rw [List.getElem?_zip_eq_some]
   exact ⟨e2,e1⟩
  have:=h6 _ hm
  dsimp only at this
  simp only [qaG,beq_iff_eq] at this
  rw [hN]
  exact this
noncomputable def bStart (src:List (Option Nat)) (σ:St):St:=src.map fun o=>o.bind fun i=>(σ[i]?).join
theorem ze7 {scope:Scope} {env:Env} {x:Str}:(relabel scope env).names.lookup x=(scope.names.lookup x).map fun k=>if (k== .free && env.scope.kind== .function && env.kindOf x==some .cell) then .cell else k:=by
 show List.lookup x (scope.names.map _)=_
 induction scope.names with
 | nil=>rfl
 | cons y r ih=>
  obtain ⟨n,k⟩:=y
  rw [qaM]
  dsimp only
  by_cases hx:x=n
  ·subst hx
   by_cases hc:(k==NameKind.free && env.scope.kind== .function && env.kindOf x==some .cell)=true
   ·rw [qa4 hc,List.lookup_cons,List.lookup_cons,beq_self_eq_true]
    dsimp only [Option.map]
    rw [qa4 hc]
   ·rw [qa5 hc,List.lookup_cons,List.lookup_cons,beq_self_eq_true]
    dsimp only [Option.map]
    rw [qa5 hc]
  ·have hb:(x==n)=false:=by simpa using hx
   by_cases hc:(k==NameKind.free && env.scope.kind== .function && env.kindOf n==some .cell)=true
   ·rw [qa4 hc,List.lookup_cons,List.lookup_cons,hb]
    exact ih
   ·rw [qa5 hc,List.lookup_cons,List.lookup_cons,hb]
    exact ih
section
variable {X:Cx} {pins:List (Addr×Obj)} {σ:St} {H:Hp} {s:Shared} {scope:Scope} {N:List Str} {src:List (Option Nat)} {fp:List Addr}
theorem zol (I:Inv X pins σ H s) (B:BOk X scope N src) {x:Str} {c:Addr} (h:(x,c)∈zbr X.env.cells scope.names []):X.env.cells.lookup x=some c/\(x,NameKind.free)∈scope.names:=by
 rcases zdX h with z | ⟨z,e⟩
 ·exact nomatch z
 ·obtain ⟨c',hc⟩:=I.ok.has x (B.free _ z rfl)
  rw [hc] at e
  exact ⟨by rw [hc,e];rfl,z⟩
theorem zgz {l:List (Str×NameKind)} (h:(l.map (·.1)).Nodup) {x:Str} {j k:NameKind} (a:(x,j)∈l) (b:(x,k)∈l):j=k:=by
 induction l with
 | nil=>exact nomatch a
 | cons y r ih=>
  obtain ⟨h1,h2⟩:=List.nodup_cons.mp (show (y.1::r.map (·.1)).Nodup from h)
  rcases qaP.mp a with e | a<;>rcases qaP.mp b with e' | b
  ·rw [<- e] at e';cases e';rfl
  ·exact absurd (qaU.mpr ⟨_,b,by rw [<- e]⟩) h1
  ·exact absurd (qaU.mpr ⟨_,a,by rw [<- e']⟩) h1
  ·exact ih h2 a b
theorem zdO (I:Inv X pins σ H s): ∀ (names:List (Str×NameKind)) (acc:List (Str×Addr)),(∀ x∈names,x.2= .free-> ∃ c,X.env.cells.lookup x.1=some c)->(names.map (·.1)).Nodup->(∀ x c,(x,c)∈acc->X.env.cells.lookup x=some c/\x∉names.map (·.1))->
  (acc.Pairwise fun x y=>x.2≠y.2)->(zbr X.env.cells names acc).Pairwise fun x y=>x.2≠y.2
 | [],_,_,_,_,h=>h
 | (n,k)::r,acc,hf,nd,ha,h=>by
  unfold zbr
  obtain ⟨h1,h2⟩:=List.nodup_cons.mp (show (n::r.map (·.1)).Nodup from nd)
  by_cases hk:(k==NameKind.free)=true
  ·rw [qa4 hk]
   obtain ⟨c,hc⟩:=hf (n,k) qau (by simpa using hk)
   have hc:X.env.cells.lookup n=some c:=hc
   rw [show (X.env.cells.lookup n).getD 0=c by rw [hc];rfl]
   refine zdO I r _ (fun x hx=>hf x (qan _ hx)) h2 (fun x c' hm=> ?_) (qay.mpr ⟨fun y hy e=> ?_,h⟩)
   ·rcases qaP.mp hm with e | hm
    ·cases e;exact ⟨hc,h1⟩
    ·exact ⟨(ha x c' hm).1,fun z=>(ha x c' hm).2 (qan _ z)⟩
   ·obtain ⟨q1,q2⟩:=ha y.1 y.2 hy
    have e':c=y.2:=e
    rw [<- e'] at q1
    have:=I.ok.inj _ _ _ hc q1
    exact q2 (by rw [<- this];exact qau)
  ·rw [qa5 hk]
   exact zdO I r acc (fun x hx=>hf x (qan _ hx)) h2 (fun x c' hm=>⟨(ha x c' hm).1,fun z=>(ha x c' hm).2 (qan _ z)⟩) h
theorem zkq (I:Inv X pins σ H s) (B:BOk X scope N src) (hf: ∀ b∈fp,zfN X pins H b) (hfo: ∀ b∈fp, ∃ o,s.heap.get? b=some o) {h':Heap} (hk: ∀ b o,s.heap.get? b=some o->h'.get? b=some o) (hns:h'.Ns s.heap.objs.size (fun _=>none))
  (hce: ∀ x c,(x,NameKind.cell)∈scope.names->(x,c)∈cellsFrom (s.heap.objs.size+1) scope.names (zbr X.env.cells scope.names [])->(x,c)∉zbr X.env.cells scope.names []->h'.IsCell c none):
  Inv (cxB X scope N s H fp) [] (bStart src σ) H {s with heap:=h'}:=by
 have cin: ∀ {x:Str} {c:Addr},(x,c)∈zbr X.env.cells scope.names []->X.env.cells.lookup x=some c/\(x,NameKind.free)∈scope.names:=fun h=>zol I B h
 have old: ∀ {x:Str} {c:Addr},X.env.cells.lookup x=some c->c<s.heap.objs.size:=fun {x c} h=>(let ⟨_,q⟩:=I.cell x c h;q.lt)
 have all: ∀ {x:Str} {c:Addr},(x,c)∈cellsFrom (s.heap.objs.size+1) scope.names (zbr X.env.cells scope.names [])->(X.env.cells.lookup x=some c/\(x,NameKind.free)∈scope.names)\/(s.heap.objs.size<c/\(x,NameKind.cell)∈scope.names):=fun {x c} h=>by
  rcases zcJ h with z | ⟨z,z'⟩
  ·exact .inl (cin z)
  ·exact .inr ⟨z,z'⟩
 have lk: ∀ {x:Str} {c:Addr},(znM X.env scope s.heap.objs.size).cells.lookup x=some c->(x,c)∈cellsFrom (s.heap.objs.size+1) scope.names (zbr X.env.cells scope.names []):=fun h=>PySem.mem_of_lookup h
 have hasF: ∀ x∈scope.names,x.2= .free-> ∃ c,X.env.cells.lookup x.1=some c:=fun x hx e=>I.ok.has x.1 (B.free x hx e)
 have ap:(cellsFrom (s.heap.objs.size+1) scope.names (zbr X.env.cells scope.names [])).Pairwise fun x y=>x.2≠y.2:=
  zb1 _ _ _ (fun x c hm=>Nat.lt_succ_of_lt (old (cin hm).1)) (zdO I scope.names [] hasF B.keys (fun _ _ z=>nomatch z) .nil)
 have outer: ∀ {x:Str} {c:Addr},(x,NameKind.free)∈scope.names->X.env.cells.lookup x=some c->(znM X.env scope s.heap.objs.size).cells.lookup x=some c:=fun {x c} h1 h2=>
  zb4 _ _ _ (fun z=>nomatch zgz B.keys h1 z) (zdd h2 scope.names [] (.inl h1))
 have kinds: ∀ x,(znM X.env scope s.heap.objs.size).kindOf x=(scope.names.lookup x).map fun k=>if (k== .free && X.env.scope.kind== .function && X.env.kindOf x==some .cell) then .cell else k:=fun x=>ze7
 have ckind: ∀ x,((znM X.env scope s.heap.objs.size).kindOf x=some .cell\/(znM X.env scope s.heap.objs.size).kindOf x=some .free)->scope.names.lookup x=some .cell\/scope.names.lookup x=some .free:=fun x h=>by
  rw [kinds x] at h
  cases e:scope.names.lookup x with
  | none=>rw [e] at h;simp at h
  | some k=>
   rw [e] at h
   cases k<;>simp at h ⊢
 refine ⟨⟨I.ok.mod,B.kind,I.ok.glob,I.ok.blt,qaV _,fun x y c h1 h2=>name_of_addr ap (lk h1) (lk h2),fun x hx=> ?_,fun x c hfn hx=> ?_,I.ok.hd,I.handA,I.ok.frames,.inl rfl,fun b hb=> ?_,I.bs,qaS I.ok.bsz I.sz,fun b o e hb=> ?_,fun b hb hb'=> ?_,I.stack,I.stkFree⟩,
   rfl,I.bare,Un.kept hk,⟨_,hns,fun i x v h1 h2 h3=> ?_⟩,fun x c h=> ?_,I.hok.fresh (qaV _),fun x c h=> ?_,fun p hp=>absurd (show p∈([]:List (Addr×Obj)) from hp) (by simp),I.hok.kept hk,?_⟩
 ·-- has
  rcases ckind x hx with h | h
  ·exact Option.isSome_iff_exists.mp (W.cellsFrom_some scope.names _ _ (.inl h))
  ·have hm:=PySem.mem_of_lookup h
   obtain ⟨c,hc⟩:=hasF _ hm rfl
   exact ⟨c,outer hm hc⟩
 ·-- cab
  have hfn:scope.names.lookup x=some .cell:=by simpa using hfn
  rcases all (lk hx) with ⟨_,z⟩ | ⟨z,_⟩
  ·exact absurd (zgz B.keys z (PySem.mem_of_lookup hfn)) (by decide)
  ·exact Nat.le_of_lt z
 ·-- exf
  obtain ⟨o,ho⟩:=hfo b hb
  refine ⟨qaR (qaQ ho),fun x c hx z=> ?_⟩
  rcases all (lk hx) with ⟨q,_⟩ | ⟨q,_⟩
  ·exact (hf b hb).2.2.2.2.1 x c q z
  ·have:=qaQ ho
   rw [<- z] at this
   exact qaN _ (Nat.lt_trans q this)
 ·-- noex
  rcases (hf b hb).2.2.2.1 with z | z
  ·exact I.ok.noex b o e z
  ·exact qaN _ (qaw (qaw (qaQ e) I.ok.bsz) z)
 ·-- exfs
  rcases qaP.mp (I.stkSub b hb') with z | z
  ·exact (hf b hb).2.1 z
  ·exact (hf b hb).2.2.1 z
 ·-- loc
  unfold bStart at h2
  rw [List.getElem?_map] at h2
  cases e:src[i]? with
  | none=>rw [e] at h2;cases h2
  | some o=>
   rw [e] at h2
   cases o with
   | none=>cases h2
   | some j=>
    have h2:(σ[j]?).join=some v:=by simpa using h2
    have e3:σ[j]? = some (some v):=by
     cases q:σ[j]? with
     | none=>rw [q] at h2;cases h2
     | some z=>rw [q] at h2;simp at h2;rw [h2]
    obtain ⟨b1,b2⟩:=B.src i j x e h1
    have hm:=PySem.mem_of_lookup b2
    obtain ⟨m,hn,hl⟩:=I.loc
    have hfr:=B.free _ hm rfl
    obtain ⟨u,r,l⟩:=hl j x v b1 e3 (.inr hfr)
    rcases l with ⟨k,_⟩ | ⟨k,c,hc,q⟩
    ·rcases hfr with z | z<;>(have z':=k.symm.trans z;cases z')
    ·refine ⟨u,r,.inr ⟨?_,c,outer hm hc,q.keeps hk⟩⟩
     rw [kinds x,b2]
     dsimp only [Option.map]
     split
     ·exact .inl rfl
     ·exact .inr rfl
 ·-- cell
  rcases all (lk h) with ⟨q,_⟩ | ⟨q,q'⟩
  ·obtain ⟨v,z⟩:=I.cell x c q
   exact ⟨v,z.keeps hk⟩
  ·exact ⟨none,hce x c q' (lk h) fun z=>absurd (Nat.lt_trans q (old (cin z).1)) (qaN _)⟩
 ·-- freeC
  rcases all (lk h) with ⟨q,_⟩ | ⟨q,q'⟩
  ·exact I.freeC x c q
  ·exact I.hok.fresh (Nat.le_of_lt q)
 ·unfold bStart
  rw [qaH]
  exact B.len
end
def PCs (X:Cx) (ifs:List Expr) (t:TT):Prop:=
 ∀ (pins:List (Addr×Obj)) (s:Shared) (σ:St) (H:Hp) (Q:Bool->Hp->Prop),Inv X pins σ H s->t σ H Q->
  wpAny (model X.prog X.w) X.A (forIn ifs true fun c r=>if r=true then do let ok<-isTrue c X.env (eval c X.env);pure (ForInStep.yield ok) else pure (ForInStep.yield r)) (TP X pins σ Q) X.xe s
noncomputable def zuZ:TT:=fun _ H Q=>Q true H
theorem zov {X:Cx}:PCs X [] zuZ:=fun pins s σ H Q I h=>wpAny_tests_nil ⟨H,I,h⟩
theorem zof {X:Cx} {c:Expr} {t:TT} (h:PT X c t):PCs X [c] t:=fun pins s σ H Q I hw=>wpAny_tests_one (h pins s σ H Q I hw)
def zsA (J:It) (g:TG) (tc:TT) (te:TE) (σ0:St) (H1:Hp) (D:Addr) (Q:Hp->Prop):Prop:=
 ∃ W:Nat->Nat->St->Hp->Prop,(∃ m,W 0 m σ0 (upd H1 D (.lst [])))/\ ∀ i m σ' H',W i m σ' H'->
  (J.stop i H'/\Q H')\/(J.go i H'/\ ∃ Nn:St->Hp->Prop,(∀ σ2 H2,Nn σ2 H2-> ∃ m',m'<m/\W (i+1) m' σ2 H2)/\ ∀ x H2,J.yld i H' x H2->g x σ' H2 fun σ2 H3=>tc σ2 H3 fun b H4=>
    if b=true then te σ2 H4 fun y H5=> ∃ xs,H5 D=some (.lst xs)/\xs.length<sizeLine/\Nn σ2 (upd H5 D (.lst (xs++[y]))) else Nn σ2 H4)
section
variable {X:Cx} {scope:Scope} {N:List Str} {src:List (Option Nat)} {tg iter elt:Expr} {ifs:List Expr} {pos:Pos}
theorem zhW {pins:List (Addr×Obj)} {σ:St} {H:Hp} {s₂:Shared} {it:Addr} {fp:List Addr} {tn:Nat->Heap->Prop} {J:It} {g:TG} {tc:TT} {te:TE} {Q:Addr->Hp->Prop} {E:Value->Shared->Prop} {RR:Value->Addr->Result->Shared->Prop}
  (B:BOk X scope N src)
  (hg: ∀ s H fp,PG (cxB X scope N s H fp) tg g) (ht: ∀ s H fp,PCs (cxB X scope N s H fp) ifs tc) (he: ∀ s H fp,PE (cxB X scope N s H fp) elt te)
  (I2:Inv X pins σ H s₂) (T:zlC X.prog X.w X.K tg J fp it tn) (st2:tn 0 s₂.heap) (f2: ∀ b∈fp,zfN X pins H b) (hw: ∀ D,H D=none->zsA J g tc te (bStart src σ) H D (Q D))
  (hRR: ∀ D C H' s' m,Inv X pins σ H' s'->s'.heap.Ns C m->s₂.heap.objs.size<=C->C<s'.heap.objs.size->H' C=none->Q D H'->RR (.ref D) C (.ok .next) s'):
  wpAny (model X.prog X.w) X.A (newList []) (fun acc s₃=>wpAny (model X.prog X.w) X.A (newFunctionEnv scope X.env.globals (zbr X.env.cells scope.names []) [] X.env.qual none .none (some X.env)) (fun cenv s₄=>
    codeAny (model X.prog X.w) X.A (.compStart (.ListComp elt [⟨tg,iter,ifs,0⟩] scope pos) 0 (.ref it) acc {cenv with scope:=relabel scope X.env}) (RR acc cenv.locals) s₄) E s₃) E s₂:=by
 refine qaC (ze2 fun h₁ hk₁ hns₁ hce₁=> ?_)
 dsimp only at hk₁ hns₁ hce₁ ⊢
 have hfresh:H s₂.heap.objs.size=none:=I2.hok.fresh (qaV _)
 have I3:Inv X pins σ (upd H s₂.heap.objs.size (.lst [])) {s₂ with heap:=s₂.heap.push {cls:= .type "list",dict:=none,data:= .seq ([]:List Value).toArray}}:=by
  have:=I2.lnew (its:=[]) (ys:=[]) (t':=s₂.toks) .nil (Nat.zero_le _)
  exact this
 obtain ⟨W,⟨m0,w0⟩,turn⟩:=hw _ hfresh
 generalize hD:s₂.heap.objs.size=D at*
 generalize hs3:({s₂ with heap:=s₂.heap.push {cls:= .type "list",dict:=none,data:= .seq ([]:List Value).toArray}}:Shared)=s₃ at*
 have hh3:s₂.heap.push {cls:= .type "list",dict:=none,data:= .seq ([]:List Value).toArray}=s₃.heap:=by rw [<- hs3]
 rw [hh3] at hk₁ hns₁ hce₁ ⊢
 have push3: ∀ b o,s₂.heap.get? b=some o->s₃.heap.get? b=some o:=fun b o e=>by rw [<- hs3];exact qag _ e
 have sz3:s₃.heap.objs.size=D+1:=by rw [<- hs3, <-hD];exact qaL ..
 have fpo: ∀ b∈fp, ∃ o,s₂.heap.get? b=some o/\ ∀ v,o.data≠ .cell v:=T.obj _ _ st2
 have fpD: ∀ b∈fp,b≠D:=fun b hb z=>by
  obtain ⟨o,e,_⟩:=fpo b hb
  have:=qaQ e
  rw [z, <-hD] at this
  exact qaN _ this
 have f3: ∀ b∈fp,zfN X pins (upd H D (.lst [])) b:=fun b hb=>⟨by rw [zax (fpD b hb)];exact (f2 b hb).1,(f2 b hb).2⟩
 have I4:Inv (cxB X scope N s₃ (upd H D (.lst [])) fp) [] (bStart src σ) (upd H D (.lst [])) {s₃ with heap:=h₁}:=
  zkq I3 B f3 (fun b hb=>let ⟨o,e,_⟩:=fpo b hb;⟨o,push3 b o e⟩) hk₁ hns₁ hce₁
 have fB: ∀ {H':Hp},(∀ b∈fp,H' b=none)-> ∀ b∈fp,zfN (cxB X scope N s₃ (upd H D (.lst [])) fp) [] H' b:=fun {H'} hn b hb=>
  ⟨hn b hb,(I4.ok.exf b hb).1,I4.ok.exfs b hb,.inl hb,fun x c e=>(I4.ok.exf b hb).2 x c e,fun p hp=>absurd (show p∈([]:List (Addr×Obj)) from hp) (by simp)⟩
 have stat4: ∀ s',s'=({s₃ with heap:=h₁}:Shared)->codeAny (model X.prog X.w) X.A (.compLoop (.ListComp elt [⟨tg,iter,ifs,0⟩] scope pos) 0 (.ref it) (.ref D) (znM X.env scope s₃.heap.objs.size)) (RR (.ref D) s₃.heap.objs.size) s':=by
  intro s' es
  refine zgr (fun n s'=> ∃ i σ' H',Inv (cxB X scope N s₃ (upd H D (.lst [])) fp) [] σ' H' s'/\tn i s'.heap/\(∀ b∈fp,H' b=none)/\W i n σ' H') ?_ m0 ⟨0,_,_,by rw [es];exact I4,by rw [es];exact T.keep _ _ _ st2 fun b hb o e=>hk₁ b o (push3 b o e),fun b hb=>(f3 b hb).1,w0⟩
  rintro n s5 ⟨i,σ5,H5,I5,st5,fr5,w5⟩
  rcases turn i n σ5 H5 w5 with ⟨stop,qn⟩ | ⟨go,Nn,hN,step⟩
  ·refine thn (T.done (cxB X scope N s₃ (upd H D (.lst [])) fp) rfl rfl rfl i [] s5 σ5 H5 _ I5 (fB fr5) st5 stop) fun r s6 ⟨hr,I6⟩=> ?_
   subst hr
   obtain ⟨m,hnC,_⟩:=I6.loc
   have un:=I6.base
   have u2:Un (frs X.stack) fp H H5 s₂.heap s6.heap:=by
    refine Un.trans ?_ un
    have:=Un.laid (fs:=frs X.stack) (ex:=fp) (H:=H) (h:=s₂.heap) (h':=s₃.heap) (a:=D) (o:= .lst []) push3 (Nat.le_of_eq hD) hfresh
    exact this
   refine hRR D _ H5 s6 m (I2.call' (ch:=fp) (by rw [I6.os, <-hs3]) u2 I6.hok I6.bare fun b hb=> ?_) hnC (by rw [sz3];exact Nat.le_succ _) hnC.lt I6.free qn
   obtain ⟨q0,q1,q2,q3,q4,q5⟩:=f2 b hb
   exact ⟨q3,q1,q4,q5⟩
  ·refine thn (T.item (cxB X scope N s₃ (upd H D (.lst [])) fp) rfl rfl rfl i [] s5 σ5 H5 _ I5 (fB fr5) st5 go) fun r s6 ⟨u,hr,h6⟩=> ?_
   subst hr
   refine thn h6 fun _ s7 ⟨x,H7,I7,r7,y7,st7,fr7⟩=> ?_
   have I7':=I7.pinned (fB fr7) (T.obj _ _ st7)
   refine thn (hg _ _ _ _ s7 σ5 H7 x u _ I7' r7 (step x H7 y7)) fun _ s8 ⟨σ8,H8,I8,q8⟩=> ?_
   refine thn (ht _ _ _ _ s8 σ8 H8 _ I8 q8) fun ok s9 ⟨H9,I9,q9⟩=> ?_
   have again: ∀ {σ7:St} {Hz:Hp} {sz:Shared},Inv (cxB X scope N s₃ (upd H D (.lst [])) fp) ([]++zgf fp s7.heap) σ7 Hz sz->Nn σ7 Hz-> ∃ m,m<n/\ ∃ i σ' H',Inv (cxB X scope N s₃ (upd H D (.lst [])) fp) [] σ' H' sz/\tn i sz.heap/\(∀ b∈fp,H' b=none)/\W i m σ' H':=fun {σz Hz sz} Iz nz=>by
    obtain ⟨m',hm,wz⟩:=hN _ _ nz
    refine ⟨m',hm,i+1,_,_,Iz.unpinned,T.keep _ _ _ st7 fun b hb o e=>(Iz.pin (b,o) (qak _ (qak _ (zc2 hb e)))).1,fun b hb=> ?_,wz⟩
    obtain ⟨o,e,d⟩:=T.obj _ _ st7 b hb
    exact (Iz.pin (b,o) (qak _ (qak _ (zc2 hb e)))).2.1
   cases ok with
   | false=>
    rw [qa5 (by decide)] at q9
    rw [qa5 (by decide)]
    exact again I9 q9
   | true=>
    rw [qa4 rfl] at q9
    rw [qa4 rfl]
    refine thn (he _ _ _ _ s9 σ8 H9 _ I9 q9) fun y s10 ⟨yv,H10,I10,ry,xs,e10,z10,q10⟩=> ?_
    refine thn (zgO (X:=cxB X scope N s₃ (upd H D (.lst [])) fp) _ s10 σ8 H10 (.ref D) [yv] (.ref D) [y] (fun _ Hf=>Nn σ8 Hf) I10 rfl (.cons ry .nil) ⟨D,xs,yv,rfl,rfl,e10,z10,q10⟩) fun _ s11 ⟨_,H11,I11,_,q11⟩=> ?_
    exact again I11 q11
 exact codeAny_compStart_list (stat4 _ (by rw [<- hs3])) (T.self _ 0 _ _ _ (T.keep _ _ _ st2 fun b hb o e=>hk₁ b o (push3 b o e)) (stat4 _ (by rw [<- hs3])))
noncomputable def zlk (wi:TI) (g:TG) (tc:TT) (te:TE) (src:List (Option Nat)):TE:=fun σ H Q=>wi σ H fun J H1=> ∀ D,H1 D=none->zsA J g tc te (bStart src σ) H1 D fun H'=>Q (.ref D) H'
theorem Inv.letGo {pins:List (Addr×Obj)} {σ:St} {H:Hp} {s:Shared} {C:Addr} {m:Str->Option Value} {h':Heap} (I:Inv X pins σ H s) (hn:s.heap.Ns C m) (hn':H C=none) (hC:X.s₀.heap.objs.size<=C) (hL:C≠X.env.locals) (hp: ∀ p∈X.pn++pins,p.1≠C) (hs:Heap.SameBut C s.heap h'):Inv X pins σ H {s with heap:=h'}:=by
 refine I.turned (t':=s.toks) (it:=C) (fun b o hb e=>(hs.2 b hb).trans e) hn' hL (.inr hC) (fun x c e z=> ?_) hp
 obtain ⟨v,o,ho,hd⟩:=I.cell x c e
 obtain ⟨o',es,ep,ho',hd',_⟩:=hn
 rw [z,ho'] at ho
 cases ho
 rw [hd'] at hd
 cases hd
theorem zo2 {wi:TI} {g:TG} {tc:TT} {te:TE} (B:BOk X scope N src) (hi:PI X tg iter wi)
  (hg: ∀ s H fp,PG (cxB X scope N s H fp) tg g) (ht: ∀ s H fp,PCs (cxB X scope N s H fp) ifs tc) (he: ∀ s H fp,PE (cxB X scope N s H fp) elt te)
  (hs: ∀ x,foldedSetIterable iter X.env x=pure x:=by intro _;rfl):PE X (.ListComp elt [⟨tg,iter,ifs,0⟩] scope pos) (zlk wi g tc te src):=by
 intro pins s σ H Q I h
 rw [eval_ListComp]
 refine wpAny_comprehension_free (use:=none) rfl hs (zdI fun x hx e=>I.ok.has x.1 (B.free x hx e)) B.kind B.locs ?_
 refine thn (hi pins s σ H _ I h) fun v s1 h1=>thn h1 fun itv s2 h2=> ?_
 obtain ⟨it,fp,tn,J,H2,e,I2,T,st2,f2,hw⟩:=h2
 subst e
 refine zhW (RR:=fun acc C=>compPost (model X.prog X.w) X.A X.xe none (EP X pins σ Q) acc C) (Q:=fun D H'=>Q (.ref D) H') B hg ht he I2 T st2 f2 hw ?_
 intro D C H' s' m I' hn hC hCs hf q
 refine ⟨m,hn,fun h' hs'=>⟨.ref D,H',I'.letGo hn hf (qaS I2.sz hC) (fun z=> ?_) (fun p hp z=> ?_) hs',rfl,q⟩⟩
 ·exact qaN _ (qaw (z▸I2.lt) hC)
 ·have:=qaQ (I2.pin p hp).1
  rw [z] at this
  exact qaN _ (qaw this hC)
theorem zfo {wi:TI} {g:TG} {tc:TT} {te:TE} {i:Nat} {y:Str} {py spos:Pos} (B:BOk X scope N src) (hi:PI X tg iter wi)
  (hg: ∀ s H fp,PG (cxB X scope N s H fp) tg g) (ht: ∀ s H fp,PCs (cxB X scope N s H fp) ifs tc) (he: ∀ s H fp,PE (cxB X scope N s H fp) elt te)
  (hN:X.N.Nodup) (hy:X.N[i]? = some y) (hx:Loc X.env.scope y) (hsw:swapsWith (.ListComp elt [⟨tg,iter,ifs,0⟩] scope pos) (some (.Name y py)) spos.line X.env=pure true)
  (hf:X.fn y=true\/X.env.scope.names.lookup y=some .local:=by first | exact .inl rfl | exact .inr rfl | assumption)
  (hs: ∀ x,foldedSetIterable iter X.env x=pure x:=by intro _;rfl):PS X (.Assign [.Name y py] (.ListComp elt [⟨tg,iter,ifs,0⟩] scope pos) spos) (ztw (zlk wi g tc te src) (znW i)):=by
 intro pins s σ H D0 I h
 rw [exec_Assign_Name_used _ _ _ _ hsw]
 refine qaW (wpAny_standAt (qaW ?_))
 show wpAny _ X.A (do let _<-comprehension (.ListComp elt [⟨tg,iter,ifs,0⟩] scope pos) scope X.env _ (newList []) false (eval iter X.env) (some (assign (.Name y py) X.env))) _ _ s
 refine qaW (qaZ (wpAny_comprehension_free (use:=some (assign (.Name y py) X.env)) (Q:=fun _ s'=>SP X pins D0 .next s') rfl hs (zdI fun x hx e=>I.ok.has x.1 (B.free x hx e)) B.kind B.locs ?_)
   (fun _ s' hq=>qaX (qaX hq)) fun _ _ e=>e)
 refine thn (hi pins s σ H _ I h) fun v s1 h1=>thn h1 fun itv s2 h2=> ?_
 obtain ⟨it,fp,tn,J,H2,e,I2,T,st2,f2,hw⟩:=h2
 subst e
 refine zhW (RR:=fun acc C=>compPost (model X.prog X.w) X.A X.xe (some (assign (.Name y py) X.env)) (fun _ s'=>SP X pins D0 .next s') acc C) (Q:=fun D H'=>D0.nx (σ.set i (some (.ref D))) H') B hg ht he I2 T st2 f2 hw ?_
 intro D C H' s' m I' hn hC hCs hf' q
 show wpAny _ X.A (assign (.Name y py) X.env (.ref D)) _ _ _
 have hCL:C≠X.env.locals:=fun z=>qaN _ (qaw (z▸I2.lt) hC)
 have hCp: ∀ p∈X.pn++pins,p.1≠C:=fun p hp z=>by
  have:=qaQ (I2.pin p hp).1
  rw [z] at this
  exact qaN _ (qaw this hC)
 have hCc: ∀ x c,X.env.cells.lookup x=some c->c≠C:=fun x c e z=>by
  obtain ⟨v,hv⟩:=I2.cell x c e
  exact qaN _ (qaw (z▸hv.lt) hC)
 obtain ⟨oC,es,ep,hoC,hdC,hrest⟩:=hn
 have hCfs:C∉X.fs:=I2.nofs hC
 have Ip:Inv X (pins++[(C,oC)]) σ H' s':=I'.pins_of fun p hp=>by
  rcases qaK.mp hp with z | z
  ·exact I'.pin p (qak _ z)
  ·obtain rfl:p=(C,oC):=by simpa using z
   exact ⟨hoC,hf',hCL,hCfs,fun v z=>by have z':=hdC.symm.trans z;cases z'⟩
 refine wpAny_assign_Name (zdr Ip hN hy hx (v:= .ref D) rfl (fun s3 I3=> ?_) hf)
 have hC3:=(I3.pin (C,oC) (by simp)).1
 refine ⟨m,⟨oC,es,ep,hC3,hdC,hrest⟩,fun h' hs'=> ?_⟩
 exact ⟨_,H',(I3.unpinned).letGo ⟨oC,es,ep,hC3,hdC,hrest⟩ hf' (qaS I2.sz hC) hCL hCp hs',q⟩
end
end L2
namespace L3
open PySem PySem.Spec PyProof.Rows L2
inductive D where
 | non | bl (b:Bool) | int (i:Int) | str (x:Str) | tup (xs:List D) | lst (xs:List D) | cel (n:Nat) | set (xs:List Int) | dct | fn (a:Addr) | scr (xs:List D) | exn (c:String)
inductive C where
 | lst (xs:List D) | dic (kvs:List (Int×D)) | dit (ks:List (List Int)) | ins (c:String) (fs:List (Str×D)) | dead
noncomputable abbrev Hh:=List C
structure Io where
 c:List (Option Addr)
 x:List Addr
def Io.Has (ι:Io) (a:Addr):Prop:=some a∈ι.c\/a∈ι.x
inductive R (α:Type) where
 | ok (a:α) (h:Hh) | exc (c:String) (h:Hh) | bad
noncomputable def M (α:Type):=Hh->R α
@[inline] noncomputable def M.bind {α β:Type} (m:M α) (f:α->M β):M β:=fun h=>match m h with
 | .ok a h'=>f a h'
 | .exc c h'=> .exc c h'
 | .bad=> .bad
@[inline] noncomputable def M.pure {α:Type} (a:α):M α:=fun h=> .ok a h
noncomputable instance:Monad M where
 pure:=M.pure
 bind:=M.bind
noncomputable def M.bad {α:Type}:M α:=fun _=> .bad
def KL (K:W.Frag) (a:Addr) (xs:List V):Prop:=SqL K (fun _=>none) a xs
mutual
noncomputable def Rel (K:W.Frag) (ι:Io) (H:Hp):D->V->Prop
 | .non,v=>v= .non
 | .bl b,v=>v= .bl b
 | .int i,v=>v= .int i
 | .str x,v=>v= .str x
 | .tup ds,v=> ∃ a vs,v= .ref a/\(H a=some (.tup vs)/\ ¬ι.Has a)/\zas K ι H ds vs
 | .lst ds,v=> ∃ a vs,v= .ref a/\(H a=some (.lst vs)/\ ¬ι.Has a)/\zas K ι H ds vs
 | .scr ds,v=> ∃ a vs,v= .ref a/\((Rd H a (.lst vs)/\ ¬ι.Has a)\/KL K a vs)/\zas K ι H ds vs
 | .cel n,v=> ∃ a,v= .ref a/\(ι.c[n]? = some (some a)\/ι.c[n]? = some none)
 | .set xs,v=> ∃ a,v= .ref a/\H a=some (.set (fun k=>xs.any (· == k)) xs.length)/\ ¬ι.Has a
 | .dct,v=> ∃ a,v= .ref a/\H a=some (.dK [])/\ ¬ι.Has a
 | .fn a,v=>v= .ref a
 | .exn c,v=> ∃ a o C head vs,v= .ref a/\(H a=some (.frz o (.own 0))/\ ¬ι.Has a)/\W.nsIn K mainGlobals (c:Str)=some (some (.ref C))/\o.cls= .ref C/\o.dict=none/\o.data= .fields vs/\vs[2]? = some .none/\vs[1]? = some head
noncomputable def zas (K:W.Frag) (ι:Io) (H:Hp):List D->List V->Prop
 | [],vs=>vs=[]
 | d::ds,vs=> ∃ v r,vs=v::r/\Rel K ι H d v/\zas K ι H ds r
end
structure zbA (ι:Io) (H:Hp) (ι':Io) (H':Hp):Prop where
 old: ∀ (n:Nat) (o:Option Addr),ι.c[n]? = some o->ι'.c[n]? = some o\/ι'.c[n]? = some none
 new: ∀ a,some a∈ι'.c->some a∈ι.c\/H a=none
 hid:ι'.x=ι.x
 hidk: ∀ a∈ι.x,H' a=H a
 keep: ∀ b o,H b=some o-> ¬ι.Has b->H' b=some o
theorem zbA.refl (ι:Io) (H:Hp):zbA ι H ι H:=⟨fun _ _ h=> .inl h,fun _ h=> .inl h,rfl,fun _ _=>rfl,fun _ _ h _=>h⟩
theorem zbA.nin {ι ι':Io} {H H':Hp} (s:zbA ι H ι' H') {a:Addr} {o:HO} (h:H a=some o) (n: ¬ι.Has a): ¬ι'.Has a:=fun z=>by
 rcases z with z | z
 ·rcases s.new a z with z | z
  ·exact n (.inl z)
  ·rw [h] at z;cases z
 ·rw [s.hid] at z;exact n (.inr z)
theorem zbA.trans {ι ι1 ι2:Io} {H H1 H2:Hp} (s:zbA ι H ι1 H1) (t:zbA ι1 H1 ι2 H2):zbA ι H ι2 H2 where
 old:=fun n o h=>by
  rcases s.old n o h with h | h
  ·exact t.old n o h
  ·rcases t.old n _ h with h | h<;>exact .inr h
 new:=fun a h=>by
  rcases t.new a h with h | h
  ·exact s.new a h
  ·by_cases z:some a∈ι.c
   ·exact .inl z
   ·refine .inr ?_
    cases q:H a with
    | none=>rfl
    | some o=>
     by_cases z':a∈ι.x
     ·rw [s.hidk a z',q] at h;cases h
     ·rw [s.keep a o q (fun w=>w.elim z z')] at h;cases h
 hid:=t.hid.trans s.hid
 hidk:=fun a h=>(t.hidk a (by rw [s.hid];exact h)).trans (s.hidk a h)
 keep:=fun b o h n=>t.keep b o (s.keep b o h n) (s.nin h n)
structure Pass (ι:Io) (H:Hp) (ι':Io) (H':Hp):Prop where
 old: ∀ (n:Nat) (o:Option Addr),ι.c[n]? = some o->ι'.c[n]? = some o\/ι'.c[n]? = some none
 keep: ∀ b o,H b=some o-> ¬ι.Has b->H' b=some o/\ ¬ι'.Has b
theorem zbA.pass {ι ι':Io} {H H':Hp} (s:zbA ι H ι' H'):Pass ι H ι' H':=⟨s.old,fun b o h n=>⟨s.keep b o h n,s.nin h n⟩⟩
theorem Pass.rd {ι ι':Io} {H H':Hp} (s:Pass ι H ι' H') {a:Addr} {u:HO} (h:Rd H a u) (n: ¬ι.Has a):Rd H' a u/\ ¬ι'.Has a:=by
 rcases h with h | ⟨o,h⟩
 ·exact ⟨.inl (s.keep _ _ h n).1,(s.keep _ _ h n).2⟩
 ·exact ⟨.inr ⟨o,(s.keep _ _ h n).1⟩,(s.keep _ _ h n).2⟩
section
variable {K:W.Frag} {ι ι':Io} {H H':Hp}
mutual
theorem Rel.pass (s:Pass ι H ι' H'): ∀ {d:D} {v:V},Rel K ι H d v->Rel K ι' H' d v
 | .non,_,h=>by simpa [Rel] using h
 | .bl _,_,h=>by simpa [Rel] using h
 | .int _,_,h=>by simpa [Rel] using h
 | .str _,_,h=>by simpa [Rel] using h
 | .tup ds,v,h=>by
  simp only [Rel] at h ⊢
  obtain ⟨a,vs,e,h1,h2⟩:=h
  exact ⟨a,vs,e,s.keep _ _ h1.1 h1.2,zas.pass s h2⟩
 | .lst ds,v,h=>by
  simp only [Rel] at h ⊢
  obtain ⟨a,vs,e,h1,h2⟩:=h
  exact ⟨a,vs,e,s.keep _ _ h1.1 h1.2,zas.pass s h2⟩
 | .scr ds,v,h=>by
  simp only [Rel] at h ⊢
  obtain ⟨a,vs,e,h1,h2⟩:=h
  exact ⟨a,vs,e,h1.imp (fun z=>s.rd z.1 z.2) id,zas.pass s h2⟩
 | .cel n,v,h=>by
  simp only [Rel] at h ⊢
  obtain ⟨a,e,h⟩:=h
  refine ⟨a,e,?_⟩
  rcases h with h | h
  ·exact s.old n _ h
  ·rcases s.old n _ h with h | h<;>exact .inr h
 | .set xs,v,h=>by
  simp only [Rel] at h ⊢
  obtain ⟨a,e,h,n⟩:=h
  exact ⟨a,e,(s.keep _ _ h n).1,(s.keep _ _ h n).2⟩
 | .dct,v,h=>by
  simp only [Rel] at h ⊢
  obtain ⟨a,e,h,n⟩:=h
  exact ⟨a,e,(s.keep _ _ h n).1,(s.keep _ _ h n).2⟩
 | .fn _,_,h=>by simpa [Rel] using h
 | .exn _,_,h=>by
  simp only [Rel] at h ⊢
  obtain ⟨a,o,C,head,vs,e,h1,h2⟩:=h
  exact ⟨a,o,C,head,vs,e,s.keep _ _ h1.1 h1.2,h2⟩
theorem zas.pass (s:Pass ι H ι' H'): ∀ {ds:List D} {vs:List V},zas K ι H ds vs->zas K ι' H' ds vs
 | [],_,h=>by simpa [zas] using h
 | d::ds,_,h=>by
  simp only [zas] at h ⊢
  obtain ⟨v,r,e,h1,h2⟩:=h
  exact ⟨v,r,e,Rel.pass s h1,zas.pass s h2⟩
end
theorem Rel.step (s:zbA ι H ι' H') {d:D} {v:V} (h:Rel K ι H d v):Rel K ι' H' d v:=h.pass s.pass
theorem zas.step (s:zbA ι H ι' H') {ds:List D} {vs:List V} (h:zas K ι H ds vs):zas K ι' H' ds vs:=h.pass s.pass
theorem zas.nil:zas K ι H [] []:=by simp [zas]
theorem zas.cons {d:D} {ds:List D} {v:V} {vs:List V} (h:Rel K ι H d v) (t:zas K ι H ds vs):zas K ι H (d::ds) (v::vs):=by simp only [zas];exact ⟨v,vs,rfl,h,t⟩
theorem zas.length: ∀ {ds:List D} {vs:List V},zas K ι H ds vs->ds.length=vs.length
 | [],_,h=>by simp only [zas] at h;subst h;rfl
 | d::ds,_,h=>by
  simp only [zas] at h
  obtain ⟨v,r,rfl,_,h⟩:=h
  simp [zas.length h]
theorem zas.get: ∀ {ds:List D} {vs:List V} {i:Nat} {d:D},zas K ι H ds vs->ds[i]? = some d-> ∃ v,vs[i]? = some v/\Rel K ι H d v
 | [],_,_,_,_,e=>by simp at e
 | d::ds,_,i,x,h,e=>by
  simp only [zas] at h
  obtain ⟨v,r,rfl,h1,h2⟩:=h
  cases i with
  | zero=>simp at e;subst e;exact ⟨v,rfl,h1⟩
  | succ i=>simp at e;simpa using zas.get h2 e
theorem zas.getV: ∀ {ds:List D} {vs:List V} {i:Nat} {v:V},zas K ι H ds vs->vs[i]? = some v-> ∃ d,ds[i]? = some d/\Rel K ι H d v
 | [],_,_,_,h,e=>by simp only [zas] at h;subst h;simp at e
 | d::ds,_,i,x,h,e=>by
  simp only [zas] at h
  obtain ⟨v,r,rfl,h1,h2⟩:=h
  cases i with
  | zero=>simp at e;subst e;exact ⟨d,rfl,h1⟩
  | succ i=>simp at e;simpa using zas.getV h2 e
theorem zas.append: ∀ {ds es:List D} {vs ws:List V},zas K ι H ds vs->zas K ι H es ws->zas K ι H (ds++es) (vs++ws)
 | [],_,_,_,h,t=>by simp only [zas] at h;subst h;exact t
 | d::ds,es,_,ws,h,t=>by
  simp only [zas] at h
  obtain ⟨v,r,rfl,h1,h2⟩:=h
  exact zas.cons h1 (zas.append h2 t)
theorem zas.set {d:D} {v:V} (hd:Rel K ι H d v): ∀ {ds:List D} {vs:List V} (i:Nat),zas K ι H ds vs->zas K ι H (ds.set i d) (vs.set i v)
 | [],_,_,h=>by simp only [zas] at h;subst h;exact zas.nil
 | x::ds,_,i,h=>by
  simp only [zas] at h
  obtain ⟨w,r,rfl,h1,h2⟩:=h
  cases i with
  | zero=>exact zas.cons hd h2
  | succ i=>exact zas.cons h1 (zas.set hd i h2)
theorem zcV: ∀ {is:List Int} {vs:List V},zas K ι H (is.map D.int) vs↔vs=is.map V.int
 | [],vs=>by simp [zas]
 | i::is,vs=>by
  simp only [qaM,zas]
  constructor
  ·rintro ⟨v,r,rfl,h1,h2⟩
   simp only [Rel] at h1
   rw [h1,zcV.mp h2]
  ·rintro rfl
   exact ⟨_,_,rfl,by simp [Rel],zcV.mpr rfl⟩
noncomputable def CO (K:W.Frag) (ι:Io) (H:Hp):C->HO->Prop
 | .lst ds,o=> ∃ vs,o= .lst vs/\zas K ι H ds vs
 | .dic kvs,o=> ∃ vs,o= .dK vs/\Paired (fun (p:Int×D) (q:Key×V)=>q.1= .inl p.1/\Rel K ι H p.2 q.2) kvs vs
 | .dit ks,o=>o= .dT (ks.map fun k=>(k.map Sum.inl,V.bl true))
 | .ins c fs,o=> ∃ C dx vs,o= .ins C dx vs/\W.nsIn K mainGlobals (c:Str)=some (some (.ref C))/\Paired (fun (p:Str×D) (q:Str×V)=>q.1=p.1/\Rel K ι H p.2 q.2) fs vs
 | .dead,_=>False
theorem CO.pass {c:C} {o:HO} (s:Pass ι H ι' H') (h:CO K ι H c o):CO K ι' H' c o:=by
 cases c with
 | lst ds=>obtain ⟨vs,e,r⟩:=h;exact ⟨vs,e,r.pass s⟩
 | dic kvs=>
  obtain ⟨vs,e,r⟩:=h
  refine ⟨vs,e,?_⟩
  clear e
  induction r with
  | nil=>exact .nil
  | cons a t ih=>exact .cons ⟨a.1,a.2.pass s⟩ ih
 | dit ks=>exact h
 | ins c fs=>
  obtain ⟨C,dx,vs,e,hc,r⟩:=h
  refine ⟨C,dx,vs,e,hc,?_⟩
  clear e
  induction r with
  | nil=>exact .nil
  | cons a t ih=>exact .cons ⟨a.1,a.2.pass s⟩ ih
 | dead=>exact h
structure zbb (K:W.Frag) (ι:Io) (H:Hp) (h:Hh):Prop where
 len:h.length=ι.c.length
 inj: ∀ (m n:Nat) (a:Addr),ι.c[m]? = some (some a)->ι.c[n]? = some (some a)->m=n
 at_: ∀ (n:Nat) (a:Addr) (c:C),ι.c[n]? = some (some a)->h[n]? = some c-> ∃ o,H a=some o/\CO K ι H c o
 dead: ∀ (n:Nat),ι.c[n]? = some none->h[n]? = some .dead
 hidt: ∀ a∈ι.x,(∃ vs,H a=some (.lst vs))/\some a∉ι.c
noncomputable abbrev Sd:=List (Option D)
def zcB (K:W.Frag) (ι:Io) (H:Hp) (sd:Sd) (σ:L2.St):Prop:=sd.length=σ.length/\ ∀ (i:Nat) (d:D),sd[i]? = some (some d)-> ∃ v,σ[i]? = some (some v)/\Rel K ι H d v
theorem zcB.pass {sd:Sd} {σ:L2.St} (s:Pass ι H ι' H') (h:zcB K ι H sd σ):zcB K ι' H' sd σ:=⟨h.1,fun i d e=>let ⟨v,h1,h2⟩:=h.2 i d e;⟨v,h1,h2.pass s⟩⟩
theorem zcB.step {sd:Sd} {σ:L2.St} (s:zbA ι H ι' H') (h:zcB K ι H sd σ):zcB K ι' H' sd σ:=⟨h.1,fun i d e=>let ⟨v,h1,h2⟩:=h.2 i d e;⟨v,h1,h2.step s⟩⟩
theorem zcB.set {sd:Sd} {σ:L2.St} {d:D} {v:V} (h:zcB K ι H sd σ) (r:Rel K ι H d v) (i:Nat):zcB K ι H (sd.set i (some d)) (σ.set i (some v)):=by
 refine ⟨by rw [qaI,qaI];exact h.1,fun j d' e=> ?_⟩
 by_cases hij:i=j
 ·subst hij
  by_cases hl:i<sd.length
  ·rw [qai hl] at e
   cases e
   exact ⟨v,by rw [qai (by rw [<- h.1];exact hl)],r⟩
  ·rw [List.getElem?_eq_none (by rw [qaI];omega)] at e
   cases e
 ·rw [qao hij] at e ⊢
  exact h.2 j d' e
end
noncomputable abbrev St:=L2.St
noncomputable abbrev XE:=String->Hp->Prop
def Fin {α:Type} (K:W.Frag) (E:XE) (ι:Io) (H:Hp) (r:R α) (P:α->Io->Hp->Prop):Prop:=match r with
 | .ok a h'=> ∀ ι' H',zbA ι H ι' H'->zbb K ι' H' h'->P a ι' H'
 | .exc c h'=> ∀ ι' H',zbA ι H ι' H'->zbb K ι' H' h'->E c H'
 | .bad=>False
section
variable {α β:Type} {K:W.Frag} {E:XE} {ι ι':Io} {H H':Hp}
theorem Fin.step {r:R α} {P:α->Io->Hp->Prop} (s:zbA ι H ι' H') (h:Fin K E ι H r P):Fin K E ι' H' r P:=by
 cases r with
 | ok a h'=>exact fun ι2 H2 t hr=>h ι2 H2 (s.trans t) hr
 | exc c h'=>exact fun ι2 H2 t hr=>h ι2 H2 (s.trans t) hr
 | bad=>exact h
theorem Fin.bind {m:M α} {f:α->M β} {h:Hh} {P:β->Io->Hp->Prop} {P':α->Io->Hp->Prop} (q:Fin K E ι H ((m>>=f) h) P)
  (k: ∀ a h' ι' H',m h= .ok a h'->zbA ι H ι' H'->zbb K ι' H' h'->Fin K E ι' H' (f a h') P->P' a ι' H'):Fin K E ι H (m h) P':=by
 have q':Fin K E ι H (M.bind m f h) P:=q
 unfold M.bind at q'
 cases e:m h with
 | ok a h'=>
  rw [e] at q'
  intro ι' H' s hr
  exact k a h' ι' H' e s hr (Fin.step s q')
 | exc c h'=>rw [e] at q';exact q'
 | bad=>rw [e] at q';exact q'
theorem Fin.out {a:α} {h:Hh} {P:α->Io->Hp->Prop} (hr:zbb K ι H h) (q:Fin K E ι H ((pure a:M α) h) P):P a ι H:=q ι H (zbA.refl _ _) hr
end
noncomputable def zg3 (K:W.Frag) (E:XE) (f:Sd->M D):TE:=fun σ H Q=> ∃ ι h sd,zcB K ι H sd σ/\zbb K ι H h/\Fin K E ι H (f sd h) fun d ι' H'=> ∀ v,Rel K ι' H' d v->Q v H'
noncomputable def ze3 (K:W.Frag) (E:XE) (f:Sd->M Bool):TT:=fun σ H Q=> ∃ ι h sd,zcB K ι H sd σ/\zbb K ι H h/\Fin K E ι H (f sd h) fun b ι' H'=>Q b H'
noncomputable def zul (K:W.Frag) (E:XE) (f:Sd->M (List D)):TA:=fun σ H Q=> ∃ ι h sd,zcB K ι H sd σ/\zbb K ι H h/\Fin K E ι H (f sd h) fun ds ι' H'=> ∀ vs,zas K ι' H' ds vs->Q vs H'
noncomputable abbrev SE (X:Cx) (E:XE) (e:Expr) (f:Sd->M D):Prop:=PE X e (zg3 X.K E f)
noncomputable abbrev ST (X:Cx) (E:XE) (e:Expr) (f:Sd->M Bool):Prop:=PT X e (ze3 X.K E f)
noncomputable abbrev SA (X:Cx) (E:XE) (es:List Expr) (f:Sd->M (List D)):Prop:=PA X es (zul X.K E f)
noncomputable def zc7 (K:W.Frag) (E:XE) (F:D->D->M D):R2:=fun x y H Q=> ∃ ι h d1 d2,Rel K ι H d1 x/\Rel K ι H d2 y/\zbb K ι H h/\Fin K E ι H (F d1 d2 h) fun d ι' H'=> ∀ v,Rel K ι' H' d v->Q v H'
noncomputable def zhU (K:W.Frag) (E:XE) (F:List D->M D):List V->Hp->VK->Prop:=fun xs H Q=> ∃ ι h ds,zas K ι H ds xs/\zbb K ι H h/\Fin K E ι H (F ds h) fun d ι' H'=> ∀ v,Rel K ι' H' d v->Q v H'
theorem PE.imp {X:Cx} {e:Expr} {t t':TE} (h:PE X e t) (m: ∀ σ H Q,t' σ H Q->t σ H Q):PE X e t':=fun pins s σ H Q I q=>h pins s σ H Q I (m _ _ _ q)
theorem PT.imp {X:Cx} {e:Expr} {t t':TT} (h:PT X e t) (m: ∀ σ H Q,t' σ H Q->t σ H Q):PT X e t':=fun pins s σ H Q I q=>h pins s σ H Q I (m _ _ _ q)
theorem PA.imp {X:Cx} {e:List Expr} {t t':TA} (h:PA X e t) (m: ∀ σ H Q,t' σ H Q->t σ H Q):PA X e t':=fun pos pins s σ H Q I q=>h pos pins s σ H Q I (m _ _ _ q)
theorem OpR.imp {X:Cx} {f:Value->Value->Sem Value} {r r':R2} (h:OpR X f r) (m: ∀ x y H Q,r' x y H Q->r x y H Q):OpR X f r':=fun pins s σ H x y v u Q I rx ry q=>h pins s σ H x y v u Q I rx ry (m _ _ _ _ q)
theorem zaZ.imp {X:Cx} {f:Value} {r r':List V->Hp->VK->Prop} (h:zaZ X f r) (m: ∀ xs H Q,r' xs H Q->r xs H Q):zaZ X f r':=by
 intro pins s σ H xs us Q I rx q
 exact h pins s σ H xs us Q I rx (m _ _ _ q)
theorem IxR.imp {X:Cx} {r r':R2} (h:IxR X r) (m: ∀ x y H Q,r' x y H Q->r x y H Q):IxR X r':=by
 intro value slice pins s σ H x y v u Q I rx ry q hs
 exact h value slice pins s σ H x y v u Q I rx ry (m _ _ _ _ q) hs
theorem PI.imp {X:Cx} {tg iter:Expr} {t t':TI} (h:PI X tg iter t) (m: ∀ σ H Q,t' σ H Q->t σ H Q):PI X tg iter t':=fun pins s σ H Q I q=>h pins s σ H Q I (m _ _ _ q)
theorem PG.imp {X:Cx} {tg:Expr} {t t':TG} (h:PG X tg t) (m: ∀ v σ H Q,t' v σ H Q->t v σ H Q):PG X tg t':=fun pins s σ H v u Q I r q=>h pins s σ H v u Q I r (m _ _ _ _ q)
theorem PS.imp {X:Cx} {st:Stmt} {t t':TS} (h:PS X st t) (m: ∀ D σ H,t' D σ H->t D σ H):PS X st t':=fun pins s σ H D I q=>h pins s σ H D I (m _ _ _ q)
theorem PSs.imp {X:Cx} {st:List Stmt} {t t':TS} (h:PSs X st t) (m: ∀ D σ H,t' D σ H->t D σ H):PSs X st t':=fun pins s σ H D I q=>h pins s σ H D I (m _ _ _ q)
section
variable {X:Cx} {E:XE} {a b e:Expr} {es:List Expr} {pos:Pos} {fa fb:Sd->M D}
theorem te2 {K:W.Frag} {F:D->D->M D} {r:R2} (hr: ∀ x y H Q,zc7 K E F x y H Q->r x y H Q) (σ:St) (H:Hp) (Q:VK) (q:zg3 K E (fun sd=>do let x<-fa sd;let y<-fb sd;F x y) σ H Q):tOp r (zg3 K E fa) (zg3 K E fb) σ H Q:=by
 obtain ⟨ι,h,sd,L,hh,q⟩:=q
 refine ⟨ι,h,sd,L,hh,Fin.bind q fun d1 h1 ι1 H1 e1 s1 hr1 q1 v r1=> ?_⟩
 refine ⟨ι1,h1,sd,L.step s1,hr1,Fin.bind q1 fun d2 h2 ι2 H2 e2 s2 hr2 q2 w r2=> ?_⟩
 exact hr _ _ _ _ ⟨ι2,h2,d1,d2,r1.step s2,r2,hr2,q2⟩
theorem zsN {op:Operator} {F:D->D->M D} (ho:OpR X (binaryOp op) (zc7 X.K E F)) (ha:SE X E a fa) (hb:SE X E b fb):SE X E (.BinOp a op b pos) (fun sd=>do let x<-fa sd;let y<-fb sd;F x y):=
 PE.imp (zsK ho ha hb) (te2 fun _ _ _ _ q=>q)
theorem zqV {op:CmpOp} {F:D->D->M D} (ho:OpR X (compareOp op) (zc7 X.K E F)) (ha:SE X E a fa) (hb:SE X E b fb) (hm:behindInMarks op b=false):SE X E (.Compare a [op] [b] pos) (fun sd=>do let x<-fa sd;let y<-fb sd;F x y):=
 PE.imp (zoC ho ha hb hm) (te2 fun _ _ _ _ q=>q)
theorem zte {F:D->D->M D} (ho:IxR X (zc7 X.K E F)) (ha:SE X E a fa) (hb:SE X E b fb) (hs:zhy b):SE X E (.Subscript a b pos) (fun sd=>do let x<-fa sd;let y<-fb sd;F x y):=
 PE.imp (ztS ho ha hb hs) (te2 fun _ _ _ _ q=>q)
noncomputable def zcR:D->M Bool
 | .bl b=>pure b
 | _=>M.bad
theorem zeA {K:W.Frag} {f:Sd->M D} (σ:St) (H:Hp) (Q:Bool->Hp->Prop) (q:ze3 K E (fun sd=>do let x<-f sd;zcR x) σ H Q):(zg3 K E f) σ H fun x H1=> ∃ c,x= .bl c/\Q c H1:=by
 obtain ⟨ι,h,sd,L,hh,q⟩:=q
 refine ⟨ι,h,sd,L,hh,Fin.bind q fun d1 h1 ι1 H1 e1 s1 hr1 q2 v r1=> ?_⟩
 cases d1 with
 | bl b=>simp only [Rel] at r1;exact ⟨b,r1,Fin.out hr1 q2⟩
 | _=>exact qa0 q2
theorem zrF {op:CmpOp} {F:D->D->M D} (ho:OpR X (compareOp op) (zc7 X.K E F)) (ha:SE X E a fa) (hb:SE X E b fb) (hm:behindInMarks op b=false):
  ST X E (.Compare a [op] [b] pos) (fun sd=>do let z<-(do let x<-fa sd;let y<-fb sd;F x y);zcR z):=by
 refine PT.imp (znH ho ha hb hm) fun σ H Q q=> ?_
 have q1:=zeA (f:=fun sd=>do let x<-fa sd;let y<-fb sd;F x y) σ H Q q
 exact te2 (fun _ _ _ _ q=>q) σ H _ q1
theorem zqD {f:Sd->M D} (h:SE X E e f) (he: ∀ whole,isTrue e X.env whole=(do let v<-whole;standAt e.pos;holding [v] (truthy v)):=by intro _;rfl):ST X E e (fun sd=>do let x<-f sd;zcR x):=
 PT.imp (zqI h he) fun σ H Q q=>zeA σ H Q q
theorem zqt {t:Sd->M Bool} (ha:ST X E a t):ST X E (.UnaryOp .Not a pos) (fun sd=>do let c<-t sd;pure (!c)):=by
 refine PT.imp (zqj ha) fun σ H Q ⟨ι,h,sd,L,hh,q⟩=>⟨ι,h,sd,L,hh,Fin.bind q fun c h1 ι1 H1 e1 s1 hr1 q1=> ?_⟩
 exact Fin.out hr1 q1
theorem zps {t:Sd->M Bool} (ha:ST X E a t):PW X (.BoolOp .And [a] pos) (ze3 X.K E t):=pw_and1 ha
theorem zrN {t:Sd->M Bool} (ha:ST X E a t):PW X (.BoolOp .Or [a] pos) (ze3 X.K E t):=pw_or1 ha
theorem PW.imp {t t':TT} (h:PW X e t) (m: ∀ σ H Q,t' σ H Q->t σ H Q):PW X e t':=fun whole pins s σ H Q I q=>h whole pins s σ H Q I (m _ _ _ q)
theorem zpV {rest:List Expr} {t u:Sd->M Bool} (ha:ST X E a t) (hb:PW X (.BoolOp .And (b::rest) pos) (ze3 X.K E u)):PW X (.BoolOp .And (a::b::rest) pos) (ze3 X.K E fun sd=>do let c<-t sd;if c=true then u sd else pure false):=by
 refine PW.imp (pw_and ha hb) fun σ H Q ⟨ι,h,sd,L,hh,q⟩=>⟨ι,h,sd,L,hh,Fin.bind q fun c h1 ι1 H1 e1 s1 hr1 q1=> ?_⟩
 cases c with
 | true=>exact znw ⟨ι1,h1,sd,L.step s1,hr1,q1⟩
 | false=>exact zm5 (Fin.out hr1 q1)
theorem ztr {rest:List Expr} {t u:Sd->M Bool} (ha:ST X E a t) (hb:PW X (.BoolOp .Or (b::rest) pos) (ze3 X.K E u)):PW X (.BoolOp .Or (a::b::rest) pos) (ze3 X.K E fun sd=>do let c<-t sd;if c=true then pure true else u sd):=by
 refine PW.imp (pw_or ha hb) fun σ H Q ⟨ι,h,sd,L,hh,q⟩=>⟨ι,h,sd,L,hh,Fin.bind q fun c h1 ι1 H1 e1 s1 hr1 q1=> ?_⟩
 cases c with
 | false=>exact zm5 ⟨ι1,h1,sd,L.step s1,hr1,q1⟩
 | true=>exact znw (Fin.out hr1 q1)
theorem zok {op:BoolOp} {vs:List Expr} {t:Sd->M Bool} (h:PW X (.BoolOp op vs pos) (ze3 X.K E t)):ST X E (.BoolOp op vs pos) t:=h.pt
theorem zqP {op:BoolOp} (h:SE X E a fa):SE X E (.BoolOp op [a] pos) fa:=zqG h
theorem zsl {rest:List Expr} (ha:SE X E a fa) (hb:SE X E (.BoolOp .And (b::rest) pos) fb):SE X E (.BoolOp .And (a::b::rest) pos) (fun sd=>do let c<-(do let x<-fa sd;zcR x);if c=true then fb sd else pure (.bl false)):=by
 refine PE.imp (zqR ha hb) fun σ H Q ⟨ι,h,sd,L,hh,q⟩=> ?_
 have q1:=zeA (K:=X.K) (E:=E) (f:=fa) σ H (fun c H1=>if c=true then zg3 X.K E fb σ H1 Q else Q (.bl false) H1) ⟨ι,h,sd,L,hh,Fin.bind q fun c h1 ι1 H1 e1 s1 hr1 q1=> ?_⟩
 ·exact q1
 ·cases c with
  | true=>exact znw ⟨ι1,h1,sd,L.step s1,hr1,q1⟩
  | false=>exact zm5 (Fin.out hr1 q1 _ (by simp [Rel]))
theorem ztP {rest:List Expr} (ha:SE X E a fa) (hb:SE X E (.BoolOp .Or (b::rest) pos) fb):SE X E (.BoolOp .Or (a::b::rest) pos) (fun sd=>do let c<-(do let x<-fa sd;zcR x);if c=true then pure (.bl true) else fb sd):=by
 refine PE.imp (zsH ha hb) fun σ H Q ⟨ι,h,sd,L,hh,q⟩=> ?_
 have q1:=zeA (K:=X.K) (E:=E) (f:=fa) σ H (fun c H1=>if c=true then Q (.bl true) H1 else zg3 X.K E fb σ H1 Q) ⟨ι,h,sd,L,hh,Fin.bind q fun c h1 ι1 H1 e1 s1 hr1 q1=> ?_⟩
 ·exact q1
 ·cases c with
  | false=>exact zm5 ⟨ι1,h1,sd,L.step s1,hr1,q1⟩
  | true=>exact znw (Fin.out hr1 q1 _ (by simp [Rel]))
theorem zsi (ha:SE X E a fa):SE X E (.UnaryOp .Not a pos) (fun sd=>do let c<-(do let x<-fa sd;zcR x);pure (.bl (!c))):=by
 refine PE.imp (zqf ha) fun σ H Q ⟨ι,h,sd,L,hh,q⟩=> ?_
 have q1:=zeA (K:=X.K) (E:=E) (f:=fa) σ H (fun c H1=>Q (.bl (!c)) H1) ⟨ι,h,sd,L,hh,Fin.bind q fun c h1 ι1 H1 e1 s1 hr1 q1=> ?_⟩
 ·exact q1
 ·exact Fin.out hr1 q1 _ (by simp [Rel])
theorem zmy {c:Expr} {t:Sd->M Bool} (hc:ST X E c t) (ha:SE X E a fa) (hb:SE X E b fb):SE X E (.IfExp c a b pos) (fun sd=>do let c<-t sd;if c=true then fa sd else fb sd):=by
 refine PE.imp (zlv hc ha hb) fun σ H Q ⟨ι,h,sd,L,hh,q⟩=>⟨ι,h,sd,L,hh,Fin.bind q fun c h1 ι1 H1 e1 s1 hr1 q1=> ?_⟩
 cases c with
 | true=>exact znw ⟨ι1,h1,sd,L.step s1,hr1,q1⟩
 | false=>exact zm5 ⟨ι1,h1,sd,L.step s1,hr1,q1⟩
noncomputable def zaf (i:Nat):Sd->M D:=fun sd=>match sd[i]? with
 | some (some d)=>pure d
 | _=>M.bad
theorem zpY (i:Nat) {x:Str} (hN:X.N[i]? = some x) (hv:Vis X.env.scope x) (hd:(x==("__debug__":Str))=false:=by decide) (hcd:(x==("__classdict__":Str))=false:=by decide):SE X E (.Name x pos) (zaf i):=by
 refine PE.imp (zm8 hN hv hd hcd) fun σ H Q ⟨ι,h,sd,L,hh,q⟩=> ?_
 unfold zaf at q
 cases e:sd[i]? with
 | none=>rw [e] at q;exact qa0 q
 | some o=>
  rw [e] at q
  cases o with
  | none=>exact qa0 q
  | some d=>
   obtain ⟨v,e1,r⟩:=L.2 i d e
   exact ⟨v,e1,Fin.out hh q v r⟩
theorem zel {K:W.Frag} {d:D} {v:V} (r: ∀ ι H,Rel K ι H d v) (σ:St) (H:Hp) (Q:VK) (q:zg3 K E (fun _=>pure d) σ H Q):tC v σ H Q:=by
 obtain ⟨ι,h,sd,L,hh,q⟩:=q
 exact Fin.out hh q v (r _ _)
theorem zq0 {i:Int} {j:Nat}:SE X E (.Constant (.int i) j pos) (fun _=>pure (.int i)):=PE.imp zsr (zel fun _ _=>by simp [Rel])
theorem zs8 {i:Bool} {j:Nat}:SE X E (.Constant (.bool i) j pos) (fun _=>pure (.bl i)):=PE.imp zrC (zel fun _ _=>by simp [Rel])
theorem zq3 {j:Nat}:SE X E (.Constant .none j pos) (fun _=>pure .non):=PE.imp zr0 (zel fun _ _=>by simp [Rel])
theorem zpO {i:Str} {j:Nat}:SE X E (.Constant (.str i) j pos) (fun _=>pure (.str i)):=PE.imp znd (zel fun _ _=>by simp [Rel])
theorem zpW:SA X E [] (fun _=>pure []):=PA.imp zcU fun σ H Q ⟨ι,h,sd,L,hh,q⟩=>Fin.out hh q [] zas.nil
theorem znV {fs:Sd->M (List D)} (ha:SE X E e fa) (hr:SA X E es fs) (hs:starEach (e::es) X.env=(false,eval e X.env)::starEach es X.env:=by rfl):SA X E (e::es) (fun sd=>do let x<-fa sd;let r<-fs sd;pure (x::r)):=by
 refine PA.imp (zbs ha hr hs) fun σ H Q ⟨ι,h,sd,L,hh,q⟩=>⟨ι,h,sd,L,hh,Fin.bind q fun d h1 ι1 H1 e1 s1 hr1 q1 v rv=> ?_⟩
 refine ⟨ι1,h1,sd,L.step s1,hr1,Fin.bind q1 fun ds h2 ι2 H2 e2 s2 hr2 q2 vs rvs=> ?_⟩
 exact Fin.out hr2 q2 _ (zas.cons (rv.step s2) rvs)
end
theorem zbb.nin {K:W.Frag} {ι:Io} {H:Hp} {h:Hh} (hr:zbb K ι H h) {p:Addr} (hp:H p=none): ¬ι.Has p:=fun z=>by
 rcases z with z | z
 ·obtain ⟨n,hn⟩:=List.mem_iff_getElem?.mp z
  have hl:n<h.length:=by rw [hr.len];exact (qac.mp hn).1
  obtain ⟨o,e,_⟩:=hr.at_ n p h[n] hn (by simp [hl])
  rw [hp] at e
  cases e
 ·obtain ⟨⟨o,e⟩,_⟩:=hr.hidt p z
  rw [hp] at e
  cases e
theorem zbb.laidS {K:W.Frag} {ι:Io} {H:Hp} {h:Hh} (hr:zbb K ι H h) {p:Addr} {o:HO} (hp:H p=none):zbA ι H ι (upd H p o):=
 ⟨fun _ _ h=> .inl h,fun _ h=> .inl h,rfl,fun a ha=>zax fun z=>hr.nin hp (.inr (z▸ha)),fun b o' h _=>by rw [zax (zaO h hp)];exact h⟩
theorem zbb.laid {K:W.Frag} {ι:Io} {H:Hp} {h:Hh} {p:Addr} {o:HO} (hr:zbb K ι H h) (hp:H p=none):zbb K ι (upd H p o) h:=
 ⟨hr.len,hr.inj,fun n a c hn hc=>by
   obtain ⟨o',e2,e3⟩:=hr.at_ n a c hn hc
   exact ⟨o',by rw [zax (zaO e2 hp)];exact e2,e3.pass (hr.laidS hp).pass⟩,hr.dead,fun a ha=>⟨by rw [zax (show a≠p from fun z=>hr.nin hp (.inr (z▸ha)))];exact (hr.hidt a ha).1,(hr.hidt a ha).2⟩⟩
noncomputable def fits (n:Nat):M Unit:=if n<=sizeLine then pure () else M.bad
theorem Fin.fits {α:Type} {K:W.Frag} {E:XE} {ι:Io} {H:Hp} {n:Nat} {f:M α} {h:Hh} {P:α->Io->Hp->Prop} (q:Fin K E ι H ((do L3.fits n;f) h) P):n<=sizeLine/\Fin K E ι H (f h) P:=by
 have q':Fin K E ι H (M.bind (L3.fits n) (fun _=>f) h) P:=q
 unfold M.bind L3.fits at q'
 by_cases hn:n<=sizeLine
 ·rw [qa4 hn] at q'
  exact ⟨hn,q'⟩
 ·rw [qa5 hn] at q'
  exact qa0 q'
section
variable {X:Cx} {E:XE} {es:List Expr} {pos:Pos} {fs:Sd->M (List D)}
theorem zsB {K:W.Frag} {ι:Io} {H:Hp} {h:Hh} {ds:List D} {vs:List V} {Q:VK} (hr:zbb K ι H h) (rl:zas K ι H ds vs) (q:Fin K E ι H ((pure (.tup ds):M D) h) fun d ι' H'=> ∀ v,Rel K ι' H' d v->Q v H') {p:Addr} (hp:H p=none):Q (.ref p) (upd H p (.tup vs)):=
 q ι _ (hr.laidS hp) (hr.laid hp) _ (by
   simp only [Rel]
   exact ⟨p,vs,rfl,⟨zaH,hr.nin hp⟩,rl.step (hr.laidS hp)⟩)
theorem zr4 {K:W.Frag} {ι:Io} {H:Hp} {h:Hh} {ds:List D} {vs:List V} {Q:VK} (hr:zbb K ι H h) (rl:zas K ι H ds vs) (q:Fin K E ι H ((pure (.lst ds):M D) h) fun d ι' H'=> ∀ v,Rel K ι' H' d v->Q v H') {p:Addr} (hp:H p=none):Q (.ref p) (upd H p (.lst vs)):=
 q ι _ (hr.laidS hp) (hr.laid hp) _ (by
   simp only [Rel]
   exact ⟨p,vs,rfl,⟨zaH,hr.nin hp⟩,rl.step (hr.laidS hp)⟩)
noncomputable def zbn (ds:List D):M D:=fun h=> .ok (.cel h.length) (h++[.lst ds])
theorem zqh {K:W.Frag} {ι:Io} {H:Hp} {h:Hh} {c0:C} {o0:HO} {Q:VK} (hr:zbb K ι H h) (co:CO K ι H c0 o0) (q:Fin K E ι H (.ok (.cel h.length) (h++[c0])) fun d ι' H'=> ∀ v,Rel K ι' H' d v->Q v H') {p:Addr} (hp:H p=none):Q (.ref p) (upd H p o0):=by
 have hlen:=hr.len
 have nh:=hr.nin hp
 have st:zbA ι H ⟨ι.c++[some p],ι.x⟩ (upd H p o0):=by
  refine ⟨fun n o h=> .inl ?_,fun a h=> ?_,rfl,fun a ha=>zax fun z=>nh (.inr (z▸ha)),fun b o' h _=>by rw [zax (zaO h hp)];exact h⟩
  ·show (ι.c++[some p])[n]? = _
   rw [qad (qac.mp h).1];exact h
  ·rcases qaK.mp h with h | h
   ·exact .inl h
   ·simp at h;subst h;exact .inr hp
 have at_: ∀ (n:Nat) (a:Addr),(ι.c++[some p])[n]? = some (some a)->(ι.c[n]? = some (some a))\/(n=ι.c.length/\a=p):=fun n a h=>by
  by_cases hl:n<ι.c.length
  ·rw [qad hl] at h;exact .inl h
  ·rw [qaa (by omega)] at h
   have:n - ι.c.length=0:=by
    cases z:n - ι.c.length with
    | zero=>rfl
    | succ k=>rw [z] at h;simp at h
   rw [this] at h
   simp at h
   exact .inr ⟨by omega,h.symm⟩
 refine q _ _ st ⟨?_,fun m n a h1 h2=> ?_,fun n a c h1 h2=> ?_,fun n h1=> ?_,fun a ha=>⟨?_,fun z=> ?_⟩⟩ _ ?_
 ·show (h++[c0]).length=(ι.c++[some p]).length
  rw [qav,qav,hlen];rfl
 ·rcases at_ m a h1 with z1 | ⟨z1,z1'⟩<;>rcases at_ n a h2 with z2 | ⟨z2,z2'⟩
  ·exact hr.inj m n a z1 z2
  ·subst z2';exact absurd (.inl (List.mem_of_getElem? z1)) nh
  ·subst z1';exact absurd (.inl (List.mem_of_getElem? z2)) nh
  ·rw [z1,z2]
 ·rcases at_ n a h1 with z1 | ⟨z1,z1'⟩
  ·rw [qad (by rw [hlen];exact (qac.mp z1).1)] at h2
   obtain ⟨o',e2,e3⟩:=hr.at_ n a c z1 h2
   exact ⟨o',by rw [zax (zaO e2 hp)];exact e2,e3.pass st.pass⟩
  ·subst z1 z1'
   rw [<- hlen,qaa (qaV _)] at h2
   simp at h2
   subst h2
   exact ⟨o0,zaH,co.pass st.pass⟩
 ·have h1:(ι.c++[some p])[n]? = some none:=h1
  by_cases hl:n<ι.c.length
  ·rw [qad hl] at h1
   rw [qad (by rw [hlen];exact hl)]
   exact hr.dead n h1
  ·rw [qaa (by omega)] at h1
   cases z:n - ι.c.length with
   | zero=>rw [z] at h1;simp at h1
   | succ k=>rw [z] at h1;simp at h1
 ·rw [zax (show a≠p from fun z=>nh (.inr (z▸ha)))]
  exact (hr.hidt a ha).1
 ·rcases qaK.mp z with z | z
  ·exact (hr.hidt a ha).2 z
  ·simp at z;subst z;exact nh (.inr ha)
 ·simp only [Rel]
  refine ⟨p,rfl,.inl ?_⟩
  show (ι.c++[some p])[h.length]? = _
  rw [hlen,qaa (qaV _)]
  simp
theorem zuz {K:W.Frag} {ι:Io} {H:Hp} {h:Hh} {ds:List D} {vs:List V} {Q:VK} (hr:zbb K ι H h) (rl:zas K ι H ds vs) (q:Fin K E ι H (zbn ds h) fun d ι' H'=> ∀ v,Rel K ι' H' d v->Q v H') {p:Addr} (hp:H p=none):Q (.ref p) (upd H p (.lst vs)):=
 zqh hr (c0:= .lst ds) ⟨vs,rfl,rl⟩ q hp
theorem zq2 {x1} (h:SA X E es fs):SE X E (.Tuple es x1 pos) (fun sd=>do let ds<-fs sd;fits ds.length;pure (.tup ds)):=by
 refine PE.imp (zql h) fun σ H Q ⟨ι,h,sd,L,hh,q⟩=>⟨ι,h,sd,L,hh,Fin.bind q fun ds h1 ι1 H1 e1 s1 hr1 q1 vs rvs=> ?_⟩
 obtain ⟨z,q2⟩:=Fin.fits q1
 exact ⟨by rw [<- rvs.length];exact z,fun p hp=>zsB hr1 rvs q2 hp⟩
theorem zsb (h:SA X E es fs):SE X E (.List es pos) (fun sd=>do let ds<-fs sd;fits ds.length;pure (.lst ds)):=by
 refine PE.imp (zmU h) fun σ H Q ⟨ι,h,sd,L,hh,q⟩=>⟨ι,h,sd,L,hh,Fin.bind q fun ds h1 ι1 H1 e1 s1 hr1 q1 vs rvs=> ?_⟩
 obtain ⟨z,q2⟩:=Fin.fits q1
 exact ⟨by rw [<- rvs.length];exact z,fun p hp=>zr4 hr1 rvs q2 hp⟩
theorem zom (h:SA X E es fs):SE X E (.List es pos) (fun sd=>do let ds<-fs sd;fits ds.length;zbn ds):=by
 refine PE.imp (zmU h) fun σ H Q ⟨ι,h,sd,L,hh,q⟩=>⟨ι,h,sd,L,hh,Fin.bind q fun ds h1 ι1 H1 e1 s1 hr1 q1 vs rvs=> ?_⟩
 obtain ⟨z,q2⟩:=Fin.fits q1
 exact ⟨by rw [<- rvs.length];exact z,fun p hp=>zuz hr1 rvs q2 hp⟩
end
inductive Out where
 | nx (sd:Sd) | rt (d:D) | bk (sd:Sd) | ct (sd:Sd)
noncomputable def zfW (K:W.Frag) (D0:znv):Out->Io->Hp->Prop
 | .nx sd',ι',H'=> ∀ σ',zcB K ι' H' sd' σ'->D0.nx σ' H'
 | .rt d,ι',H'=> ∀ v,Rel K ι' H' d v->D0.rt v H'
 | .bk sd',ι',H'=> ∀ σ',zcB K ι' H' sd' σ'->D0.bk σ' H'
 | .ct sd',ι',H'=> ∀ σ',zcB K ι' H' sd' σ'->D0.ct σ' H'
noncomputable def zuk (K:W.Frag) (E:XE) (G:Sd->M Out):TS:=fun D0 σ H=> ∃ ι h sd,zcB K ι H sd σ/\zbb K ι H h/\Fin K E ι H (G sd h) (zfW K D0)
noncomputable abbrev SS (X:Cx) (E:XE) (st:Stmt) (G:Sd->M Out):Prop:=PS X st (zuk X.K E G)
noncomputable abbrev SSs (X:Cx) (E:XE) (st:List Stmt) (G:Sd->M Out):Prop:=PSs X st (zuk X.K E G)
noncomputable def andThen (o:Out) (g:Sd->M Out):M Out:=match o with
 | .nx sd=>g sd
 | o=>pure o
section
variable {X:Cx} {E:XE} {pos:Pos}
theorem zqL:SSs X E [] (fun sd=>pure (.nx sd)):=PSs.imp zn2 fun D0 σ H ⟨ι,h,sd,L,hh,q⟩=>Fin.out hh q σ L
theorem zo3 {st:Stmt} {rest:List Stmt} {g g':Sd->M Out} (h1:SS X E st g) (h2:SSs X E rest g'):SSs X E (st::rest) (fun sd=>do let o<-g sd;andThen o g'):=by
 refine PSs.imp (zlH h1 h2) fun D0 σ H ⟨ι,h,sd,L,hh,q⟩=>⟨ι,h,sd,L,hh,Fin.bind q fun o h1 ι1 H1 e1 s1 hr1 q1=> ?_⟩
 cases o with
 | nx sd'=>exact fun σ' L'=>⟨ι1,h1,sd',L',hr1,q1⟩
 | rt d=>exact Fin.out (E:=E) (P:=zfW X.K D0) hr1 q1
 | bk sd'=>exact Fin.out (E:=E) (P:=zfW X.K D0) hr1 q1
 | ct sd'=>exact Fin.out (E:=E) (P:=zfW X.K D0) hr1 q1
theorem zrO {st:Stmt} {g:Sd->M Out} (h1:SS X E st g):SSs X E [st] g:=znJ h1
theorem zq4 {e:Expr} {f:Sd->M D} (he:SE X E e f) (hs:swapsWith e none pos.line X.env=pure false:=by rfl):SS X E (.Expr e pos) (fun sd=>do let _<-f sd;pure (.nx sd)):=by
 refine PS.imp (zob he hs) fun D0 σ H ⟨ι,h,sd,L,hh,q⟩=>⟨ι,h,sd,L,hh,Fin.bind q fun d h1 ι1 H1 e1 s1 hr1 q1 v rv=> ?_⟩
 exact Fin.out hr1 q1 σ (L.step s1)
theorem zsY {e:Expr} {f:Sd->M D} (he:SE X E e f):SS X E (.Return (some e) pos) (fun sd=>do let d<-f sd;pure (.rt d)):=by
 refine PS.imp (zrD he) fun D0 σ H ⟨ι,h,sd,L,hh,q⟩=>⟨ι,h,sd,L,hh,Fin.bind q fun d h1 ι1 H1 e1 s1 hr1 q1 v rv=> ?_⟩
 exact Fin.out hr1 q1 v rv
theorem zus {c:Expr} {a b:List Stmt} {t:Sd->M Bool} {g g':Sd->M Out} (hc:ST X E c t) (ha:SSs X E a g) (hb:SSs X E b g'):SS X E (.If c a b pos) (fun sd=>do let c<-t sd;if c=true then g sd else g' sd):=by
 refine PS.imp (zsQ hc ha hb) fun D0 σ H ⟨ι,h,sd,L,hh,q⟩=>⟨ι,h,sd,L,hh,Fin.bind q fun c h1 ι1 H1 e1 s1 hr1 q1=> ?_⟩
 cases c with
 | true=>exact znw ⟨ι1,h1,sd,L.step s1,hr1,q1⟩
 | false=>exact zm5 ⟨ι1,h1,sd,L.step s1,hr1,q1⟩
noncomputable def zqq (K:W.Frag) (E:XE) (g:D->Sd->M Sd):TG:=fun v σ H Q=> ∃ ι h sd d,zcB K ι H sd σ/\zbb K ι H h/\Rel K ι H d v/\Fin K E ι H (g d sd h) fun sd' ι' H'=> ∀ σ',zcB K ι' H' sd' σ'->Q σ' H'
noncomputable def zsJ (K:W.Frag) (E:XE) (g:List D->Sd->M Sd):TGs:=fun vs σ H Q=> ∃ ι h sd ds,zcB K ι H sd σ/\zbb K ι H h/\zas K ι H ds vs/\Fin K E ι H (g ds sd h) fun sd' ι' H'=> ∀ σ',zcB K ι' H' sd' σ'->Q σ' H'
noncomputable abbrev SG (X:Cx) (E:XE) (tg:Expr) (g:D->Sd->M Sd):Prop:=PG X tg (zqq X.K E g)
noncomputable abbrev SGs (X:Cx) (E:XE) (tgs:List Expr) (g:List D->Sd->M Sd):Prop:=PGs X tgs (zsJ X.K E g)
noncomputable def zaG (i:Nat):D->Sd->M Sd:=fun d sd=>pure (sd.set i (some d))
theorem zo8 (i:Nat) {x:Str} (hN:X.N.Nodup) (hi:X.N[i]? = some x) (hx:Loc X.env.scope x) (hf:X.fn x=true\/X.env.scope.names.lookup x=some .local):SG X E (.Name x pos) (zaG i):=by
 refine PG.imp (zpt hN hi hx hf) fun v σ H Q ⟨ι,h,sd,d,L,hh,r,q⟩=> ?_
 exact Fin.out hh q _ (L.set r i)
theorem PGs.imp {tgs:List Expr} {t t':TGs} (h:PGs X tgs t) (m: ∀ v σ H Q,t' v σ H Q->t v σ H Q):PGs X tgs t':=fun pins s σ H v u Q I r q=>h pins s σ H v u Q I r (m _ _ _ _ q)
noncomputable def zbq:List D->Sd->M Sd:=fun ds sd=>match ds with | []=>pure sd | _=>M.bad
noncomputable def zar (g:D->Sd->M Sd) (gs:List D->Sd->M Sd):List D->Sd->M Sd:=fun ds sd=>match ds with
 | []=>M.bad
 | d::r=>do let sd1<-g d sd;gs r sd1
theorem zpc:SGs X E [] zbq:=by
 refine PGs.imp zou fun v σ H Q ⟨ι,h,sd,ds,L,hh,r,q⟩=> ?_
 cases ds with
 | nil=>simp only [zas] at r;exact ⟨r,Fin.out hh q _ L⟩
 | cons d r=>exact qa0 q
theorem zmt {e:Expr} {es:List Expr} {g:D->Sd->M Sd} {gs:List D->Sd->M Sd} (h1:SG X E e g) (h2:SGs X E es gs)
  (hs:(assignEach (e::es) X.env).map (·.2)=assign e X.env::(assignEach es X.env).map (·.2):=by rfl):SGs X E (e::es) (zar g gs):=by
 refine PGs.imp (zl1 h1 h2 hs) fun v σ H Q ⟨ι,h,sd,ds,L,hh,r,q⟩=> ?_
 cases ds with
 | nil=>exact qa0 q
 | cons d ds=>
  simp only [zas] at r
  obtain ⟨v1,vr,rfl,r1,r2⟩:=r
  refine ⟨v1,vr,rfl,ι,h,sd,d,L,hh,r1,Fin.bind q fun sd1 h1 ι1 H1 e1 s1 hr1 q1 σ1 L1=> ?_⟩
  exact ⟨ι1,h1,sd1,ds,L1,hr1,r2.step s1,q1⟩
noncomputable def zbp (n:Nat) (gs:List D->Sd->M Sd):D->Sd->M Sd:=fun d sd=>match d with
 | .tup ds=>if ds.length=n then gs ds sd else M.bad
 | _=>M.bad
theorem zdc {K:W.Frag} {ι:Io} {H:Hp} {ds:List D} {v:V} (h:Rel K ι H (.tup ds) v): ∃ a vs,v= .ref a/\SqT K H a vs/\zas K ι H ds vs:=by
 simp only [Rel] at h
 obtain ⟨a,vs,e,h1,h2⟩:=h
 exact ⟨a,vs,e,.inl (.inl h1.1),h2⟩
theorem zle {K:W.Frag} {ι:Io} {H:Hp} {ds:List D} {v:V} (h:Rel K ι H (.scr ds) v): ∃ a vs,v= .ref a/\SqL K H a vs/\zas K ι H ds vs:=by
 simp only [Rel] at h
 obtain ⟨a,vs,e,h1,h2⟩:=h
 refine ⟨a,vs,e,?_,h2⟩
 rcases h1 with h1 | h1
 ·exact .inl h1.1
 ·rcases h1 with h1 | h1
  ·rcases h1 with h1 | ⟨o,h1⟩<;>cases h1
  ·exact .inr h1
theorem zeb {K:W.Frag} {ι:Io} {H:Hp} {ds:List D} {v:V} (h:Rel K ι H (.lst ds) v): ∃ a vs,v= .ref a/\SqL K H a vs/\zas K ι H ds vs:=by
 simp only [Rel] at h
 obtain ⟨a,vs,e,h1,h2⟩:=h
 exact ⟨a,vs,e,.inl (.inl h1.1),h2⟩
theorem zp8 {es:List Expr} {k:Nat} {gs:List D->Sd->M Sd} {n:Nat} (hc:X.calm=true) (h:SGs X E es gs)
  (hn:(assignEach es X.env).length=n:=by rfl) (hst:(assignEach es X.env).findIdx? (·.1)=none:=by rfl):SG X E (.Tuple es k pos) (zbp n gs):=by
 refine PG.imp (zrt hc h hn hst) fun v σ H Q ⟨ι,h,sd,d,L,hh,r,q⟩=> ?_
 cases d with
 | tup ds=>
  obtain ⟨a,vs,e,h1,h2⟩:=zdc r
  have q:Fin X.K E ι H ((if ds.length=n then gs ds sd else M.bad) h) _:=q
  by_cases hl:ds.length=n
  ·rw [qa4 hl] at q
   exact ⟨a,vs,e,h1,by rw [<- h2.length];exact hl,ι,h,sd,ds,L,hh,h2,q⟩
  ·rw [qa5 hl] at q
   exact qa0 q
 | _=>exact qa0 q
theorem zt2 {tg e:Expr} {f:Sd->M D} {g:D->Sd->M Sd} (he:SE X E e f) (hg:SG X E tg g) (hs:swapsWithSole [tg] e pos.line X.env=pure false:=by rfl) (hw:swappedStores [tg] e X.env=pure none:=by rfl)
  (h1:(assignEach [tg] X.env).map (·.2)=[assign tg X.env]:=by rfl):SS X E (.Assign [tg] e pos) (fun sd=>do let d<-f sd;let sd'<-g d sd;pure (.nx sd')):=by
 refine PS.imp (zrv he hg hs hw h1) fun D0 σ H ⟨ι,h,sd,L,hh,q⟩=>⟨ι,h,sd,L,hh,Fin.bind q fun d h1 ι1 H1 e1 s1 hr1 q1 v rv=> ?_⟩
 exact ⟨ι1,h1,sd,d,L.step s1,hr1,rv,Fin.bind q1 fun sd' h2 ι2 H2 e2 s2 hr2 q2=>Fin.out hr2 q2⟩
theorem zsI (i:Nat) {x:Str} {e:Expr} {f:Sd->M D} {pos':Pos} (hN:X.N.Nodup) (hi:X.N[i]? = some x) (hx:Loc X.env.scope x) (hf:X.fn x=true\/X.env.scope.names.lookup x=some .local) (he:SE X E e f) (hs:swapsWith e (some (.Name x pos')) pos.line X.env=pure false:=by rfl):
  SS X E (.Assign [.Name x pos'] e pos) (fun sd=>do let d<-f sd;pure (.nx (sd.set i (some d)))):=by
 refine PS.imp (zqo hN hi hx he hs hf) fun D0 σ H ⟨ι,h,sd,L,hh,q⟩=>⟨ι,h,sd,L,hh,Fin.bind q fun d h1 ι1 H1 e1 s1 hr1 q1 v rv=> ?_⟩
 exact Fin.out hr1 q1 _ ((L.step s1).set rv i)
theorem zta {i j:Nat} {x y:Str} {a b:Expr} {fs:Sd->M (List D)} {px py pt:Pos} {kt k2 pt2} (hp:PS X (.Assign [.Tuple [.Name x px,.Name y py] kt pt] (.Tuple [a,b] k2 pt2) pos) (zt9 i j (zul X.K E fs))):
  SS X E (.Assign [.Tuple [.Name x px,.Name y py] kt pt] (.Tuple [a,b] k2 pt2) pos) (fun sd=>do let ds<-fs sd;match ds with | [d,d']=>pure (.nx ((sd.set i (some d)).set j (some d'))) | _=>M.bad):=by
 refine PS.imp hp fun D0 σ H ⟨ι,h,sd,L,hh,q⟩=>⟨ι,h,sd,L,hh,Fin.bind q fun ds h1 ι1 H1 e1 s1 hr1 q1 vs rv=> ?_⟩
 match ds,rv,q1 with
 | [d,d'],rv,q1=>
  simp only [zas] at rv
  obtain ⟨v,r,rfl,r1,v',r',rfl,r2,rfl⟩:=rv
  exact ⟨v,v',rfl,Fin.out hr1 q1 _ (((L.step s1).set r1 i).set r2 j)⟩
 | [],_,q1=>exact qa0 q1
 | [_],_,q1=>exact qa0 q1
 | _::_::_::_,_,q1=>exact qa0 q1
def zpm (H H2:Hp):Prop:=H2=H\/ ∃ q vs,H q=none/\H2=upd H q (.tup vs)
theorem zpm.step {K:W.Frag} {ι:Io} {H H2:Hp} {h:Hh} (g:zpm H H2) (hr:zbb K ι H h):zbA ι H ι H2/\zbb K ι H2 h:=by
 rcases g with e | ⟨q,vs,hq,e⟩
 ·subst e;exact ⟨zbA.refl _ _,hr⟩
 ·subst e;exact ⟨hr.laidS hq,hr.laid hq⟩
structure zlh (K:W.Frag) (ι:Io) (H:Hp) (J:It) (ds:List D):Prop where
 go: ∀ ι' H' (i:Nat),Pass ι H ι' H'->i<ds.length->J.go i H'
 yld: ∀ ι' H' h (i:Nat) x H2,Pass ι H ι' H'->zbb K ι' H' h->i<ds.length->J.yld i H' x H2->zpm H' H2/\ ∃ d,ds[i]? = some d/\Rel K ι' H2 d x
 stop: ∀ ι' H',Pass ι H ι' H'->J.stop ds.length H'
noncomputable def ztQ (K:W.Frag) (E:XE) (f:Sd->M (List D)):TI:=fun σ H Q=> ∃ ι h sd,zcB K ι H sd σ/\zbb K ι H h/\Fin K E ι H (f sd h) fun ds ι' H'=> ∀ J,zlh K ι' H' J ds->Q J H'
noncomputable abbrev SI (X:Cx) (E:XE) (tg iter:Expr) (f:Sd->M (List D)):Prop:=PI X tg iter (ztQ X.K E f)
noncomputable def zdx:D->M (List D)
 | .tup ds=>pure ds
 | .lst ds=>pure ds
 | _=>M.bad
theorem zmB {K:W.Frag} {ι:Io} {H:Hp} {a:Addr} {vs:List V} {ds:List D} (h: ∀ ι' H',Pass ι H ι' H'->SqT K H' a vs) (rl:zas K ι H ds vs):zlh K ι H (Itt K a) ds where
 go:=fun ι' H' i s hi=>⟨vs,vs[i]'(by rw [<- rl.length];exact hi),h ι' H' s,by simp⟩
 yld:=fun ι' H' _ i x H2 s _ hi ⟨e,y⟩=>by
  subst e
  have hx:=y vs (h ι' _ s)
  obtain ⟨d,e1,e2⟩:=rl.getV hx
  exact ⟨.inl rfl,d,e1,e2.pass s⟩
 stop:=fun ι' H' s=>⟨vs,h ι' H' s,by rw [rl.length];exact qaV _⟩
theorem zlD {K:W.Frag} {ι:Io} {H:Hp} {a:Addr} {vs:List V} {ds:List D} (h: ∀ ι' H',Pass ι H ι' H'->SqL K H' a vs) (rl:zas K ι H ds vs):zlh K ι H (Itl K a) ds where
 go:=fun ι' H' i s hi=>⟨vs,vs[i]'(by rw [<- rl.length];exact hi),h ι' H' s,by simp⟩
 yld:=fun ι' H' _ i x H2 s _ hi ⟨e,y⟩=>by
  subst e
  have hx:=y vs (h ι' _ s)
  obtain ⟨d,e1,e2⟩:=rl.getV hx
  exact ⟨.inl rfl,d,e1,e2.pass s⟩
 stop:=fun ι' H' s=>⟨vs,h ι' H' s,by rw [rl.length];exact qaV _⟩
theorem Pass.refl (ι:Io) (H:Hp):Pass ι H ι H:=(zbA.refl ι H).pass
theorem zfF {K:W.Frag} {ι:Io} {H:Hp} {ds:List D} {v:V} (h:Rel K ι H (.tup ds) v): ∃ a vs,v= .ref a/\(∀ ι' H',Pass ι H ι' H'->SqT K H' a vs)/\zas K ι H ds vs:=by
 simp only [Rel] at h
 obtain ⟨a,vs,e,h1,h2⟩:=h
 exact ⟨a,vs,e,fun ι' H' s=> .inl (.inl (s.keep _ _ h1.1 h1.2).1),h2⟩
theorem zfQ {K:W.Frag} {ι:Io} {H:Hp} {ds:List D} {v:V} (h:Rel K ι H (.lst ds) v): ∃ a vs,v= .ref a/\(∀ ι' H',Pass ι H ι' H'->SqL K H' a vs)/\zas K ι H ds vs:=by
 simp only [Rel] at h
 obtain ⟨a,vs,e,h1,h2⟩:=h
 exact ⟨a,vs,e,fun ι' H' s=> .inl (.inl (s.keep _ _ h1.1 h1.2).1),h2⟩
end
end L3
namespace L2
open PySem PySem.Spec PyProof.Rows
noncomputable def zuQ (K:W.Frag) (tl:TE):TI:=fun σ H R=>tl σ H fun x H1=> ∃ a,x= .ref a/\(((∃ xs,SqL K H1 a xs)/\R (Itl K a) H1)\/((∃ xs,SqT K H1 a xs)/\R (Itt K a) H1))
theorem zp6 {X:Cx} {tg:Expr} {l:Expr} {tl:TE} (hl:PE X l tl):PI X tg l (zuQ X.K tl):=by
 intro pins s σ H R I h
 refine thn (hl pins s σ H _ I h) fun v s1 ⟨x,H1,I1,r1,q1⟩=> ?_
 obtain ⟨a,e,⟨⟨xs,hq⟩,q⟩ | ⟨⟨xs,hq⟩,q⟩⟩:=q1
 ·subst e
  cases r1
  obtain ⟨its,rv,p,hz⟩:=I1.list hq
  refine wpAny_pyIter_list p.isList ?_
  refine ⟨s1.heap.objs.size,[s1.heap.objs.size],_,_,H1,rfl,I1.kept (t':=s1.toks) fun b o e=>qag _ e,zj1 a _,⟨_,qar _ rfl,rfl,rfl⟩,fun b hb=> ?_,q⟩
  have e:b=s1.heap.objs.size:=by simpa using hb
  subst e
  exact I1.fpOk (qaV _) (I1.hok.fresh (qaV _))
 ·subst e
  cases r1
  obtain ⟨its,rv,p,hz⟩:=I1.tuple hq
  refine wpAny_pyIter_tuple (show s1.heap.IsTuple a its.toArray from p) ?_
  refine ⟨s1.heap.objs.size,[s1.heap.objs.size],_,_,H1,rfl,I1.kept (t':=s1.toks) fun b o e=>qag _ e,ziQ a _,⟨_,qar _ rfl,rfl,rfl⟩,fun b hb=> ?_,q⟩
  have e:b=s1.heap.objs.size:=by simpa using hb
  subst e
  exact I1.fpOk (qaV _) (I1.hok.fresh (qaV _))
end L2
namespace L3
open PySem PySem.Spec PyProof.Rows L2
section
variable {X:Cx} {E:XE} {pos:Pos}
theorem zrP {tg e:Expr} {f:Sd->M D} (he:SE X E e f):SI X E tg e (fun sd=>do let d<-f sd;zdx d):=by
 refine PI.imp (zp6 he) fun σ H Q ⟨ι,h,sd,L,hh,q⟩=>⟨ι,h,sd,L,hh,Fin.bind q fun d h1 ι1 H1 e1 s1 hr1 q1 v rv=> ?_⟩
 cases d with
 | lst ds=>
  obtain ⟨a,vs,e,h1',h2⟩:=zfQ rv
  exact ⟨a,e,.inl ⟨⟨vs,h1' _ _ (Pass.refl _ _)⟩,Fin.out hr1 q1 _ (zlD h1' h2)⟩⟩
 | tup ds=>
  obtain ⟨a,vs,e,h1',h2⟩:=zfF rv
  exact ⟨a,e,.inr ⟨⟨vs,h1' _ _ (Pass.refl _ _)⟩,Fin.out hr1 q1 _ (zmB h1' h2)⟩⟩
 | _=>exact qa0 q1
noncomputable def zd6 (lo:Int) (n:Nat):List D:=(List.range n).map fun (k:Nat)=>D.int (lo+(k:Int))
theorem zml {K:W.Frag} {ι:Io} {H:Hp} {lo:Int} {n:Nat}:zlh K ι H (Itr lo n) (zd6 lo n) where
 go:=fun ι' H' i s hi=>by show i<n;simpa [zd6] using hi
 yld:=fun ι' H' _ i x H2 s _ hi ⟨e,y⟩=>by
  subst e y
  have hi:i<n:=by simpa [zd6] using hi
  refine ⟨.inl rfl,.int (lo+i),?_,by simp [Rel]⟩
  simp [zd6,hi]
 stop:=fun ι' H' s=>by
  show n<=(zd6 lo n).length
  simp [zd6]
noncomputable def zcE (j:Int):Bool:=decide (-(2^62)<=j) && decide (j<2^62)
noncomputable def zht:List D->M (List D)
 | [.int j]=>if zcE j=true then pure (zd6 0 j.toNat) else M.bad
 | _=>M.bad
theorem zeQ {j:Int} (h:zcE j=true): -(2^62)<=j/\j<2^62:=by
 unfold zcE at h
 simpa using h
theorem znN {tg a:Expr} {p:Pos} {fs:Sd->M (List D)} (hg:Gl X "range") (hm:X.mg "range"=none) (ha:SA X E [a] fs) (hs:starEach [a] X.env=[(false,eval a X.env)]:=by rfl):
  SI X E tg (.Call (.Name "range" p) [a] [] pos) (fun sd=>do let ds<-fs sd;zht ds):=by
 refine PI.imp (zj8 hg hm ha hs) fun σ H Q ⟨ι,h,sd,L,hh,q⟩=>⟨ι,h,sd,L,hh,Fin.bind q fun ds h1 ι1 H1 e1 s1 hr1 q1 vs rv=> ?_⟩
 match ds,rv,q1 with
 | [.int j],rv,q1=>
  simp only [zas,Rel] at rv
  obtain ⟨v,r,rfl,rfl,rfl⟩:=rv
  have q1:Fin X.K E ι1 H1 ((if zcE j=true then (pure (zd6 0 j.toNat):M (List D)) else M.bad) h1) _:=q1
  by_cases hj:zcE j=true
  ·rw [qa4 hj] at q1
   exact ⟨j,rfl,(zeQ hj).1,(zeQ hj).2,Fin.out hr1 q1 _ zml⟩
  ·rw [qa5 hj] at q1
   exact qa0 q1
 | [],_,q1=>exact qa0 q1
 | .non::_,_,q1=>exact qa0 q1
 | .bl _::_,_,q1=>exact qa0 q1
 | .str _::_,_,q1=>exact qa0 q1
 | .tup _::_,_,q1=>exact qa0 q1
 | .lst _::_,_,q1=>exact qa0 q1
 | .cel _::_,_,q1=>exact qa0 q1
 | .set _::_,_,q1=>exact qa0 q1
 | .dct::_,_,q1=>exact qa0 q1
 | .fn _::_,_,q1=>exact qa0 q1
 | .scr _::_,_,q1=>exact qa0 q1
 | .exn _::_,_,q1=>exact qa0 q1
 | .int _::_::_,_,q1=>exact qa0 q1
noncomputable def za1 (body:D->Sd->M Out):List D->Sd->M Out
 | [],sd=>pure (.nx sd)
 | x::r,sd=>do
  let o<-body x sd
  match o with
  | .nx sd'=>za1 body r sd'
  | .ct sd'=>za1 body r sd'
  | .bk sd'=>pure (.nx sd')
  | .rt d=>pure (.rt d)
theorem ztZ {tg iter:Expr} {body:List Stmt} {fi:Sd->M (List D)} {g:D->Sd->M Sd} {gb:Sd->M Out} (hc:X.calm=true) (hp:PassesOwn (model X.prog X.w) X.A X.env X.xe) (hi:SI X E tg iter fi) (hg:SG X E tg g) (hb:SSs X E body gb)
  (hs: ∀ x,foldedSetIterable iter X.env x=pure x:=by intro _;rfl):SS X E (.For tg iter body [] pos) (fun sd=>do let ds<-fi sd;za1 (fun x sd=>do let sd1<-g x sd;gb sd1) ds sd):=by
 refine PS.imp (zsh hp hc hi hg hb hs) fun D0 σ H ⟨ι,h,sd,L,hh,q⟩=>⟨ι,h,sd,L,hh,Fin.bind q fun ds h1 ι1 H1 e1 s1 hr1 q1 J ok=> ?_⟩
 refine ⟨fun i m σ' H'=>m=ds.length - i/\i<=ds.length/\ ∃ ι' h' sd',zbA ι1 H1 ι' H'/\zcB X.K ι' H' sd' σ'/\zbb X.K ι' H' h'/\Fin X.K E ι' H' (za1 (fun x sd=>do let sd1<-g x sd;gb sd1) (ds.drop i) sd' h') (zfW X.K D0),
   ⟨_,rfl,Nat.zero_le _,ι1,h1,sd,zbA.refl _ _,L.step s1,hr1,by simpa using q1⟩,?_⟩
 rintro i m σ2 H2 ⟨rfl,hi2,ι2,h2,sd2,s2,L2,hr2,q2⟩
 by_cases hlt:i<ds.length
 ·right
  refine ⟨ok.go ι2 H2 i s2.pass hlt,fun σ' H'=>i+1<=ds.length/\ ∃ ι' h' sd',zbA ι1 H1 ι' H'/\zcB X.K ι' H' sd' σ'/\zbb X.K ι' H' h'/\Fin X.K E ι' H' (za1 (fun x sd=>do let sd1<-g x sd;gb sd1) (ds.drop (i+1)) sd' h') (zfW X.K D0),
    fun σ' H' p=>⟨ds.length - (i+1),by omega,rfl,p.1,p.2⟩,fun x H3 y=> ?_⟩
  obtain ⟨gr,d,ed,rd⟩:=ok.yld ι2 H2 h2 i x H3 s2.pass hr2 hlt y
  obtain ⟨s3,hr3⟩:=gr.step hr2
  have edr:ds.drop i=d::ds.drop (i+1):=by
   rw [qae hlt]
   rw [qaf hlt] at ed
   rw [Option.some.inj ed]
  rw [edr] at q2
  have q3:Fin X.K E ι2 H3 (za1 (fun x sd=>do let sd1<-g x sd;gb sd1) (d::ds.drop (i+1)) sd2 h2) (zfW X.K D0):=Fin.step s3 q2
  refine ⟨ι2,h2,sd2,d,L2.step s3,hr3,rd,?_⟩
  have q5:Fin X.K E ι2 H3 ((g d sd2>>=fun sd1=>(gb sd1>>=fun o=>(match o with
    | .nx sd'=>za1 (fun x sd=>do let sd1<-g x sd;gb sd1) (ds.drop (i+1)) sd'
    | .ct sd'=>za1 (fun x sd=>do let sd1<-g x sd;gb sd1) (ds.drop (i+1)) sd'
    | .bk sd'=>pure (.nx sd')
    | .rt d=>pure (.rt d):M Out))) h2) (zfW X.K D0):=by
   have e:(za1 (fun x sd=>do let sd1<-g x sd;gb sd1) (d::ds.drop (i+1)) sd2 h2)=((g d sd2>>=fun sd1=>(gb sd1>>=fun o=>(match o with
     | .nx sd'=>za1 (fun x sd=>do let sd1<-g x sd;gb sd1) (ds.drop (i+1)) sd'
     | .ct sd'=>za1 (fun x sd=>do let sd1<-g x sd;gb sd1) (ds.drop (i+1)) sd'
     | .bk sd'=>pure (.nx sd')
     | .rt d=>pure (.rt d):M Out))) h2):=by
    show M.bind (M.bind (g d sd2) gb) _ h2=M.bind (g d sd2) _ h2
    unfold M.bind
    cases g d sd2 h2<;>rfl
   rw [<- e]
   exact q3
  refine Fin.bind q5 fun sd6 h6 ι6 H6 e6 s6 hr6 q6 σ6 L6=> ?_
  refine ⟨ι6,h6,sd6,L6,hr6,Fin.bind q6 fun o h7 ι7 H7 e7 s7 hr7 q7=> ?_⟩
  have st7:zbA ι1 H1 ι7 H7:=((s2.trans s3).trans s6).trans s7
  cases o with
  | nx sd'=>exact fun σ' L'=>⟨hlt,ι7,h7,sd',st7,L',hr7,q7⟩
  | ct sd'=>exact fun σ' L'=>⟨hlt,ι7,h7,sd',st7,L',hr7,q7⟩
  | bk sd'=>exact fun σ' L'=>Fin.out (E:=E) (P:=zfW X.K D0) hr7 q7 σ' L'
  | rt d=>exact fun v rv=>Fin.out (E:=E) (P:=zfW X.K D0) hr7 q7 v rv
 ·left
  have e:i=ds.length:=by omega
  subst e
  refine ⟨ok.stop ι2 H2 s2.pass,?_⟩
  rw [List.drop_length] at q2
  exact Fin.out (E:=E) (P:=zfW X.K D0) hr2 q2 σ2 L2
noncomputable def zbj (f:D->M (Option D)):List D->M (List D)
 | []=>pure []
 | x::r=>do
  let o<-f x
  let ys<-zbj f r
  pure (match o with | some y=>y::ys | none=>ys)
noncomputable def zbc (g:D->Sd->M Sd) (tc:Sd->M Bool) (te:Sd->M D) (sd:Sd) (x:D):M (Option D):=do
 let sd1<-g x sd
 let c<-tc sd1
 if c=true then do
  let y<-te sd1
  pure (some y)
 else pure none
end
noncomputable def Io.hide (ι:Io) (p:Addr):Io:=⟨ι.c,p::ι.x⟩
noncomputable def Io.show (ι:Io):Io:=⟨ι.c,ι.x.tail⟩
theorem zlq {ι:Io} {a:Addr} (h:ι.show.Has a):ι.Has a:=h.imp id List.mem_of_mem_tail
section
variable {K:W.Frag} {ι ι':Io} {H H':Hp} {p:Addr} {o:HO} {h:Hh}
theorem zeK (hp:H p=none):Pass ι H (ι.hide p) (upd H p o):=⟨fun _ _ z=> .inl z,fun b o' hb n=>⟨by rw [zax (zaO hb hp)];exact hb,fun z=>by
  rcases z with z | z
  · exact n (.inl z)
  · rcases qaP.mp z with z | z
    · rw [z,hp] at hb;cases hb
    · exact n (.inr z)⟩⟩
theorem zgS:Pass ι H ι.show H:=⟨fun _ _ z=> .inl z,fun b o' hb n=>⟨hb,fun z=>n (zlq z)⟩⟩
theorem zdD (hp:p∈ι.x):Pass ι H ι (upd H p o):=⟨fun _ _ z=> .inl z,fun b o' hb n=>⟨by rw [zax (show b≠p from fun z=>n (.inr (z▸hp)))];exact hb,n⟩⟩
theorem zbb.hide {ws:List V} (hr:zbb K ι H h) (hp:H p=none):zbb K (ι.hide p) (upd H p (.lst ws)) h:=
 ⟨hr.len,hr.inj,fun n a c h1 h2=>by
   obtain ⟨o',e2,e3⟩:=hr.at_ n a c h1 h2
   exact ⟨o',by rw [zax (zaO e2 hp)];exact e2,e3.pass (zeK hp)⟩,hr.dead,fun a ha=>by
   rcases qaP.mp ha with z | z
   · subst z;exact ⟨⟨ws,zaH⟩,fun z=>hr.nin hp (.inl z)⟩
   · refine ⟨?_,(hr.hidt a z).2⟩
     rw [zax (show a≠p from fun w=>hr.nin hp (.inr (w▸z)))]
     exact (hr.hidt a z).1⟩
theorem zbb.hid {ws:List V} (hr:zbb K ι H h) (hp:p∈ι.x):zbb K ι (upd H p (.lst ws)) h:=
 ⟨hr.len,hr.inj,fun n a c h1 h2=>by
   obtain ⟨o',e2,e3⟩:=hr.at_ n a c h1 h2
   have ne:a≠p:=fun z=>(hr.hidt p hp).2 (z▸List.mem_of_getElem? h1)
   exact ⟨o',by rw [zax ne];exact e2,e3.pass (zdD hp)⟩,hr.dead,fun a ha=>by
   refine ⟨?_,(hr.hidt a ha).2⟩
   by_cases z:a=p
   · subst z;exact ⟨ws,zaH⟩
   · rw [zax z];exact (hr.hidt a ha).1⟩
theorem zbb.show (hr:zbb K ι H h):zbb K ι.show H h:=
 ⟨hr.len,hr.inj,fun n a c h1 h2=>by
   obtain ⟨o',e2,e3⟩:=hr.at_ n a c h1 h2
   exact ⟨o',e2,e3.pass zgS⟩,hr.dead,fun a ha=>hr.hidt a (List.mem_of_mem_tail ha)⟩
theorem zge {ι1 ι2:Io} {H1 H2:Hp} (hp:H p=none) (hpx:p∉ι.x) (hx:ι1.x=p::ι.x) (s:zbA ι H ι1.show H1) (t:zbA ι1 H1 ι2 H2):zbA ι H ι2.show (upd H2 p o) where
 old:=fun n q h=>by
  rcases s.old n q h with h | h
  ·exact t.old n q h
  ·rcases t.old n _ h with h | h<;>exact .inr h
 new:=fun a h=>by
  rcases t.new a h with h | h
  ·exact s.new a h
  ·by_cases z:some a∈ι.c
   ·exact .inl z
   ·refine .inr ?_
    cases q:H a with
    | none=>rfl
    | some o=>
     by_cases z':a∈ι.x
     ·rw [s.hidk a z',q] at h;cases h
     ·rw [s.keep a o q (fun w=>w.elim z z')] at h;cases h
 hid:=by
  show ι2.x.tail=ι.x
  rw [t.hid,hx]
  rfl
 hidk:=fun a ha=>by
  have z:a≠p:=fun z=>hpx (z▸ha)
  rw [zax z,t.hidk a (by rw [hx];exact qan _ ha)]
  exact s.hidk a ha
 keep:=fun b q hb n=>by
  have ne:b≠p:=zaO hb hp
  rw [zax ne]
  refine t.keep b q (s.keep b q hb n) fun z=> ?_
  rcases z with z | z
  ·rcases s.new b z with z | z
   ·exact n (.inl z)
   ·rw [hb] at z;cases z
  ·rw [hx] at z
   rcases qaP.mp z with z | z
   ·exact ne z
   ·exact n (.inr z)
theorem zbA.shown {ι2:Io} {H2:Hp} {r:List Addr} (hx:ι.x=p::r) (t:zbA ι H ι2 H2):zbA ι.show H ι2.show H2 where
 old:=t.old
 new:=t.new
 hid:=by show ι2.x.tail=ι.x.tail;rw [t.hid]
 hidk:=fun a ha=>t.hidk a (List.mem_of_mem_tail ha)
 keep:=fun b q hb n=>by
  by_cases z:b=p
  ·subst z
   rw [t.hidk b (by rw [hx];exact qau)]
   exact hb
  ·refine t.keep b q hb fun w=> ?_
   rcases w with w | w
   ·exact n (.inl w)
   ·rw [hx] at w
    rcases qaP.mp w with w | w
    ·exact z w
    ·exact n (.inr (by show b∈ι.x.tail;rw [hx];exact w))
theorem Fin.bindB {α β:Type} {E:XE} {m:M α} {f:α->M β} {P:β->Io->Hp->Prop} {P':α->Io->Hp->Prop} {ιb:Io} {Hb:Hp} (q:Fin K E ιb Hb ((m>>=f) h) P)
  (conv: ∀ ι' H' h',zbA ι H ι' H'->zbb K ι' H' h'-> ∃ ι'',zbA ιb Hb ι'' H'/\zbb K ι'' H' h')
  (k: ∀ a h' ι' H',m h= .ok a h'->zbA ι H ι' H'->zbb K ι' H' h'->Fin K E ιb Hb (f a h') P->P' a ι' H'):Fin K E ι H (m h) P':=by
 have q':Fin K E ιb Hb (M.bind m f h) P:=q
 unfold M.bind at q'
 cases e:m h with
 | ok a h'=>
  rw [e] at q'
  intro ι' H' s hr
  exact k a h' ι' H' e s hr q'
 | exc c h'=>
  rw [e] at q'
  intro ι' H' s hr
  obtain ⟨ι'',s2,hr2⟩:=conv ι' H' h' s hr
  exact q' _ _ s2 hr2
 | bad=>rw [e] at q';exact q'
end
noncomputable instance:LawfulMonad M:=LawfulMonad.mk' M
 (id_map:=fun x=>by
   funext h
   show M.bind x (fun a=>M.pure (id a)) h=x h
   unfold M.bind M.pure
   cases x h<;>rfl)
 (pure_bind:=fun x f=>rfl)
 (bind_assoc:=fun x f g=>by
   funext h
   show M.bind (M.bind x f) g h=M.bind x (fun a=>M.bind (f a) g) h
   unfold M.bind
   cases x h<;>rfl)
noncomputable def zak (src:List (Option Nat)) (sd:Sd):Sd:=src.map fun o=>o.bind fun i=>(sd[i]?).join
theorem zcB.bStart {K:W.Frag} {ι:Io} {H:Hp} {sd:Sd} {σ:L2.St} {src:List (Option Nat)} (h:zcB K ι H sd σ):zcB K ι H (zak src sd) (bStart src σ):=by
 refine ⟨by unfold zak L2.bStart;rw [qaH,qaH],fun i d e=> ?_⟩
 unfold zak at e
 unfold L2.bStart
 rw [List.getElem?_map] at e ⊢
 cases z:src[i]? with
 | none=>rw [z] at e;cases e
 | some o=>
  rw [z] at e
  cases o with
  | none=>cases e
  | some j=>
   have e:(sd[j]?).join=some d:=by simpa using e
   cases w:sd[j]? with
   | none=>rw [w] at e;cases e
   | some q=>
    rw [w] at e
    have e:q=some d:=by simpa using e
    subst e
    obtain ⟨v,h1,h2⟩:=h.2 j d w
    exact ⟨v,by simp [h1],h2⟩
def zaC (g:D->Sd->M Sd) (src:List (Option Nat)):Prop:= ∀ x sd h sd1 h1,sd.length=src.length->(∀ (i:Nat),src[i]? = some none->sd[i]? = some none)->g x sd h= .ok sd1 h1->sd1.length=sd.length/\ ∀ (i:Nat) d,src[i]? ≠ some none->sd[i]? = some (some d)->sd1[i]? = some (some d)
def zaN (g:List D->Sd->M Sd) (src:List (Option Nat)):Prop:= ∀ x sd h sd1 h1,g x sd h= .ok sd1 h1->sd1.length=sd.length/\ ∀ (i:Nat) d,src[i]? ≠ some none->sd[i]? = some (some d)->sd1[i]? = some (some d)
theorem zj6 {i:Nat} {src:List (Option Nat)} (h:src[i]? = some none): ∀ x sd h sd1 h1,zaG i x sd h= .ok sd1 h1->sd1.length=sd.length/\ ∀ (j:Nat) d,src[j]? ≠ some none->sd[j]? = some (some d)->sd1[j]? = some (some d):=fun x sd h0 sd1 h1 e=>by
 have e:R.ok (sd.set i (some x)) h0= .ok sd1 h1:=e
 cases e
 refine ⟨qaI,fun j d hj e=> ?_⟩
 rw [qao (show i≠j from fun z=>hj (z▸h))]
 exact e
theorem zaC.name {i:Nat} {src:List (Option Nat)} (h:src[i]? = some none):zaC (zaG i) src:=fun x sd h0 sd1 h1 _ _ e=>zj6 h x sd h0 sd1 h1 e
theorem zaN.nil {src:List (Option Nat)}:zaN zbq src:=fun x sd h sd1 h1 e=>by
 cases x with
 | nil=>
  have e:R.ok sd h= .ok sd1 h1:=e
  cases e
  exact ⟨rfl,fun _ _ _ z=>z⟩
 | cons _ _=>cases (show R.bad=R.ok sd1 h1 from e)
theorem zaN.cons {i:Nat} {gs:List D->Sd->M Sd} {src:List (Option Nat)} (h:src[i]? = some none) (t:zaN gs src):zaN (zar (zaG i) gs) src:=fun x sd h0 sd1 h1 e=>by
 cases x with
 | nil=>cases (show R.bad=R.ok sd1 h1 from e)
 | cons d r=>
  have e:gs r (sd.set i (some d)) h0= .ok sd1 h1:=e
  obtain ⟨e1,e2⟩:=t r _ h0 sd1 h1 e
  refine ⟨by rw [e1,qaI],fun j d' hj z=>e2 j d' hj ?_⟩
  rw [qao (show i≠j from fun z=>hj (z▸h))]
  exact z
theorem zaC.tup {n:Nat} {gs:List D->Sd->M Sd} {src:List (Option Nat)} (t:zaN gs src):zaC (zbp n gs) src:=fun x sd h0 sd1 h1 _ _ e=>by
 cases x with
 | tup ds=>
  have e:(if ds.length=n then gs ds sd else M.bad) h0= .ok sd1 h1:=e
  by_cases hl:ds.length=n
  ·rw [qa4 hl] at e;exact t _ _ _ _ _ e
  ·rw [qa5 hl] at e;cases (show R.bad=R.ok sd1 h1 from e)
 | _=>cases (show R.bad=R.ok sd1 h1 from e)
section
variable {X:Cx} {E:XE} {scope:Scope} {N:List Str} {src:List (Option Nat)} {tg iter elt:Expr} {ifs:List Expr} {pos:Pos}
noncomputable abbrev SCs (X:Cx) (E:XE) (ifs:List Expr) (t:Sd->M Bool):Prop:=PCs X ifs (ze3 X.K E t)
theorem zqA:SCs X E [] (fun _=>pure true):=fun pins s σ H Q I ⟨ι,h,sd,L,hh,q⟩=>zov pins s σ H Q I (Fin.out hh q)
theorem zqJ {c:Expr} {t:Sd->M Bool} (h:ST X E c t):SCs X E [c] t:=zof h
theorem blk {K:W.Frag} {g:D->Sd->M Sd} {tc:Sd->M Bool} {te:Sd->M D} {J:It} {ds:List D} {ι:Io} {H:Hp} {h:Hh} {sd:Sd} {σ:L2.St} {Q:VK} {p:Addr} (hk:zaC g src) (L:zcB K ι H sd σ) (hr:zbb K ι H h) (ok:zlh K ι H J ds) (hz:ds.length<=sizeLine)
  (q:Fin K E ι H ((do let ys<-zbj (zbc g tc te (zak src sd)) ds;pure (D.lst ys)) h) fun d ι' H'=> ∀ v,Rel K ι' H' d v->Q v H') (hp:H p=none):
  zsA J (zqq K E g) (ze3 K E tc) (zg3 K E te) (bStart src σ) H p fun H'=>Q (.ref p) H':=by
 generalize hP:(fun (d:D) (ι':Io) (H':Hp)=> ∀ v,Rel K ι' H' d v->Q v H')=P at q
 generalize hf:zbc g tc te (zak src sd)=f at q
 have hpx:p∉ι.x:=fun z=>hr.nin hp (.inr z)
 have h0len:(zak src sd).length=src.length:=by unfold zak;rw [qaH]
 have h0non: ∀ (i:Nat),src[i]? = some none->(zak src sd)[i]? = some none:=fun i e=>by unfold zak;rw [List.getElem?_map,e];rfl
 refine ⟨fun i m σ' H'=>m=ds.length - i/\i<=ds.length/\ ∃ ι' h' done vs,ι'.x=p::ι.x/\zbA ι H ι'.show H'/\zcB K ι' H' (zak src sd) σ'/\zbb K ι' H' h'/\H' p=some (.lst vs)/\zas K ι' H' done vs/\done.length<=i/\
     Fin K E ι H ((do let ys<-zbj f (ds.drop i);pure (D.lst (done++ys))) h') P,
   ⟨_,rfl,Nat.zero_le _,ι.hide p,h,[],[],rfl,?_,L.bStart.pass (zeK hp),hr.hide hp,zaH,zas.nil,qaV _,?_⟩,?_⟩
 ·have:=hr.laidS (o:= .lst []) hp
  exact ⟨this.old,this.new,this.hid,this.hidk,this.keep⟩
 ·simpa using q
 rintro i m σ2 H2 ⟨rfl,hi2,ι2,h2,done,vs,hx2,s2,L2,hr2,e2,rl2,dl2,q2⟩
 have ps2:Pass ι H ι2 H2:=⟨s2.old,fun b o hb n=>⟨s2.keep b o hb n,fun z=>by
   rcases z with z | z
   · exact s2.nin hb n (.inl z)
   · rw [hx2] at z
     rcases qaP.mp z with z | z
     · rw [z,hp] at hb;cases hb
     · exact n (.inr z)⟩⟩
 have hp2:p∈ι2.x:=by rw [hx2];exact qau
 have base: ∀ {ι':Io} {H':Hp},zbA ι2 H2 ι' H'->zbA ι H ι'.show H':=fun t=>s2.trans (t.shown hx2)
 by_cases hlt:i<ds.length
 ·right
  refine ⟨ok.go ι2 H2 i ps2 hlt,fun σ' H'=>i+1<=ds.length/\ ∃ ι' h' done vs,ι'.x=p::ι.x/\zbA ι H ι'.show H'/\zcB K ι' H' (zak src sd) σ'/\zbb K ι' H' h'/\H' p=some (.lst vs)/\zas K ι' H' done vs/\done.length<=i+1/\
    Fin K E ι H ((do let ys<-zbj f (ds.drop (i+1));pure (D.lst (done++ys))) h') P,fun σ' H' z=>⟨ds.length - (i+1),by omega,rfl,z.1,z.2⟩,fun x H3 y=> ?_⟩
  obtain ⟨gr,d,ed,rd⟩:=ok.yld ι2 H2 h2 i x H3 ps2 hr2 hlt y
  obtain ⟨s3,hr3⟩:=gr.step hr2
  have edr:ds.drop i=d::ds.drop (i+1):=by
   rw [qae hlt]
   rw [qaf hlt] at ed
   rw [Option.some.inj ed]
  rw [edr] at q2
  have q3:=q2
  have st3:zbA ι2 H2 ι2 H3:=s3
  have e3:H3 p=some (.lst vs):=by rw [s3.hidk p hp2];exact e2
  have eq1:(do let ys<-zbj f (d::ds.drop (i+1));pure (D.lst (done++ys)):M D)=(g d (zak src sd)>>=fun sd1=>tc sd1>>=fun c=>if c=true then (te sd1>>=fun y=>zbj f (ds.drop (i+1))>>=fun ys=>pure (D.lst (done++[y]++ys))) else (zbj f (ds.drop (i+1))>>=fun ys=>pure (D.lst (done++ys)))):=by
   rw [zbj]
   rw [<- hf]
   simp only [zbc,bind_assoc]
   refine congrArg _ (funext fun sd1=> ?_)
   refine congrArg _ (funext fun c=> ?_)
   cases c with
   | true=>simp only [if_true,bind_assoc,pure_bind,List.append_assoc,List.cons_append,List.nil_append]
   | false=>simp only [qax,if_false,pure_bind]
  rw [eq1] at q3
  refine ⟨ι2,h2,zak src sd,d,L2.step s3,hr3,rd,?_⟩
  refine Fin.bindB q3 (fun ι' H' h' s hr'=>⟨ι'.show,base (s3.trans s),hr'.show⟩) fun sd4 h4 ι4 H4 e4 s4 hr4 q4 σ4 L4=> ?_
  have hx4:ι4.x=p::ι.x:=by rw [s4.hid];exact hx2
  obtain ⟨k1,k2⟩:=hk d _ h2 sd4 h4 h0len h0non e4
  refine ⟨ι4,h4,sd4,L4,hr4,Fin.bindB q4 (fun ι' H' h' s hr'=>⟨ι'.show,base ((s3.trans s4).trans s),hr'.show⟩) fun c h5 ι5 H5 e5 s5 hr5 q5=> ?_⟩
  have hx5:ι5.x=p::ι.x:=by rw [s5.hid];exact hx4
  have sub: ∀ {ι':Io} {H':Hp},zcB K ι' H' sd4 σ4->zcB K ι' H' (zak src sd) σ4:=fun {ι' H'} z=>⟨by rw [<- k1];exact z.1,fun j d' e=>z.2 j d' (k2 j d' (fun w=>by rw [h0non j w] at e;cases e) e)⟩
  have st5:zbA ι2 H2 ι5 H5:=(s3.trans s4).trans s5
  cases c with
  | false=>
   exact zm5 ⟨hlt,ι5,h5,done,vs,hx5,base st5,sub (L4.step s5),hr5,by rw [st5.hidk p hp2];exact e2,rl2.step st5,Nat.le_succ_of_le dl2,q5⟩
  | true=>
   refine znw ⟨ι5,h5,sd4,L4.step s5,hr5,Fin.bindB q5 (fun ι' H' h' s hr'=>⟨ι'.show,base (st5.trans s),hr'.show⟩) fun yd h6 ι6 H6 e6 s6 hr6 q6 y ry=> ?_⟩
   have st6:zbA ι2 H2 ι6 H6:=st5.trans s6
   have hx6:ι6.x=p::ι.x:=by rw [s6.hid];exact hx5
   have hp6:p∈ι6.x:=by rw [hx6];exact qau
   have e6':H6 p=some (.lst vs):=by rw [st6.hidk p hp2];exact e2
   refine ⟨vs,e6',by rw [<- rl2.length];omega,hlt,ι6,h6,done++[yd],vs++[y],hx6,zge hp hpx hx2 s2 st6,?_,hr6.hid hp6,zaH,?_,?_,?_⟩
   ·exact ((sub (L4.step s5)).step s6).pass (zdD hp6)
   ·exact ((rl2.step st6).append (zas.cons ry zas.nil)).pass (zdD hp6)
   ·rw [qav,List.length_singleton];omega
   ·exact q6
 ·left
  have e:i=ds.length:=by omega
  subst e
  refine ⟨ok.stop ι2 H2 ps2,?_⟩
  rw [List.drop_length] at q2
  have q3:P (.lst done) ι2.show H2:=by
   have:Fin K E ι H ((pure (D.lst (done++[])):M D) h2) P:=q2
   rw [List.append_nil] at this
   exact this _ _ s2 hr2.show
  rw [<- hP] at q3
  refine q3 (.ref p) ?_
  simp only [Rel]
  refine ⟨p,vs,rfl,⟨e2,fun z=> ?_⟩,rl2.pass zgS⟩
  rcases z with z | z
  ·exact (hr2.hidt p (by rw [hx2];exact qau)).2 z
  ·exact hpx (by have z:p∈ι2.x.tail:=z;rw [hx2] at z;exact z)
noncomputable def zaK (fi:Sd->M (List D)) (g:D->Sd->M Sd) (tc:Sd->M Bool) (te:Sd->M D) (src:List (Option Nat)):Sd->M D:=fun sd=>do
 let ds<-fi sd
 fits ds.length
 let ys<-zbj (zbc g tc te (zak src sd)) ds
 pure (D.lst ys)
theorem zjR {K:W.Frag} {fi:Sd->M (List D)} {g:D->Sd->M Sd} {tc:Sd->M Bool} {te:Sd->M D} (hk:zaC g src) (σ:L2.St) (H:Hp) (Q:VK) (q:zg3 K E (zaK fi g tc te src) σ H Q):
  zlk (ztQ K E fi) (zqq K E g) (ze3 K E tc) (zg3 K E te) src σ H Q:=by
 obtain ⟨ι,h,sd,L,hh,q⟩:=q
 refine ⟨ι,h,sd,L,hh,Fin.bind q fun ds h1 ι1 H1 e1 s1 hr1 q1 J ok p hp=> ?_⟩
 obtain ⟨z,q2⟩:=Fin.fits q1
 exact blk hk (L.step s1) hr1 ok z q2 hp
theorem zk3 {fi:Sd->M (List D)} {g:D->Sd->M Sd} {tc:Sd->M Bool} {te:Sd->M D} (B:BOk X scope N src) (hk:zaC g src) (hi:SI X E tg iter fi)
  (hg: ∀ s H fp,SG (cxB X scope N s H fp) E tg g) (ht: ∀ s H fp,SCs (cxB X scope N s H fp) E ifs tc) (he: ∀ s H fp,SE (cxB X scope N s H fp) E elt te)
  (hs: ∀ x,foldedSetIterable iter X.env x=pure x:=by intro _;rfl):SE X E (.ListComp elt [⟨tg,iter,ifs,0⟩] scope pos) (zaK fi g tc te src):=
 PE.imp (zo2 B hi hg ht he hs) (zjR hk)
theorem zjV {fi:Sd->M (List D)} {g:D->Sd->M Sd} {tc:Sd->M Bool} {te:Sd->M D} (i:Nat) {y:Str} {py spos:Pos} (B:BOk X scope N src) (hk:zaC g src) (hi:SI X E tg iter fi)
  (hg: ∀ s H fp,SG (cxB X scope N s H fp) E tg g) (ht: ∀ s H fp,SCs (cxB X scope N s H fp) E ifs tc) (he: ∀ s H fp,SE (cxB X scope N s H fp) E elt te)
  (hN:X.N.Nodup) (hy:X.N[i]? = some y) (hx:Loc X.env.scope y) (hf:X.fn y=true\/X.env.scope.names.lookup y=some .local) (hsw:swapsWith (.ListComp elt [⟨tg,iter,ifs,0⟩] scope pos) (some (.Name y py)) spos.line X.env=pure true)
  (hs: ∀ x,foldedSetIterable iter X.env x=pure x:=by intro _;rfl):SS X E (.Assign [.Name y py] (.ListComp elt [⟨tg,iter,ifs,0⟩] scope pos) spos) (fun sd=>do let d<-zaK fi g tc te src sd;pure (.nx (sd.set i (some d)))):=by
 refine PS.imp (zfo B hi hg ht he hN hy hx hsw hf hs) fun D0 σ H ⟨ι,h,sd,L,hh,q⟩=>zjR hk σ H _ ⟨ι,h,sd,L,hh,Fin.bind q fun d h1 ι1 H1 e1 s1 hr1 q1 v rv=> ?_⟩
 exact Fin.out (E:=E) (P:=zfW X.K D0) hr1 q1 _ ((L.step s1).set rv i)
end
section
variable {K:W.Frag} {ι:Io} {H:Hp} {h:Hh} {n:Nat} {a:Addr}
theorem zeH {o:HO} (hn:ι.c[n]? = some (some a)):Pass ι H ι (upd H a o):=⟨fun _ _ z=> .inl z,fun b o' hb nb=>⟨by rw [zax (show b≠a from fun z=>nb (.inl (z▸List.mem_of_getElem? hn)))];exact hb,nb⟩⟩
theorem zbb.cellS {o:HO} (hr:zbb K ι H h) (hn:ι.c[n]? = some (some a)):zbA ι H ι (upd H a o):=
 ⟨fun _ _ z=> .inl z,fun _ z=> .inl z,rfl,fun b hb=>zax fun z=>(hr.hidt b hb).2 (z▸List.mem_of_getElem? hn),fun b o' hb nb=>((zeH hn).keep b o' hb nb).1⟩
theorem zbb.cellO {c':C} {o':HO} (hr:zbb K ι H h) (hn:ι.c[n]? = some (some a)) (co:CO K ι H c' o'):zbb K ι (upd H a o') (h.set n c'):=by
 refine ⟨by rw [qaI];exact hr.len,hr.inj,fun m b c hm hc=> ?_,fun m hm=> ?_,fun b hb=>⟨?_,(hr.hidt b hb).2⟩⟩
 ·by_cases e:n=m
  ·subst e
   rw [hn] at hm
   cases hm
   rw [qai (by rw [hr.len];exact (qac.mp hn).1)] at hc
   cases hc
   exact ⟨o',zaH,co.pass (zeH hn)⟩
  ·rw [qao e] at hc
   obtain ⟨o2,e2,e3⟩:=hr.at_ m b c hm hc
   have ne:b≠a:=fun z=>by subst z;exact e (hr.inj n m b hn hm)
   exact ⟨o2,by rw [zax ne];exact e2,e3.pass (zeH hn)⟩
 ·have e:n≠m:=fun z=>by subst z;rw [hn] at hm;cases hm
  rw [qao e]
  exact hr.dead m hm
 ·rw [zax (show b≠a from fun z=>(hr.hidt b hb).2 (z▸List.mem_of_getElem? hn))]
  exact (hr.hidt b hb).1
theorem zbb.cell {ds':List D} {vs':List V} (hr:zbb K ι H h) (hn:ι.c[n]? = some (some a)) (rl:zas K ι H ds' vs'):zbb K ι (upd H a (.lst vs')) (h.set n (.lst ds')):=hr.cellO hn ⟨vs',rfl,rl⟩
theorem zbb.read {ds:List D} {v:V} (hr:zbb K ι H h) (r:Rel K ι H (.cel n) v) (e:h[n]? = some (.lst ds)): ∃ a vs,v= .ref a/\ι.c[n]? = some (some a)/\H a=some (.lst vs)/\zas K ι H ds vs:=by
 simp only [Rel] at r
 obtain ⟨a,e1,r | r⟩:=r
 ·obtain ⟨o,e3,vs,rfl,e4⟩:=hr.at_ n a _ r e
  exact ⟨a,vs,e1,r,e3,e4⟩
 ·rw [hr.dead n r] at e
  cases e
end
noncomputable def zao (n:Nat):M (List D):=fun h=>match h[n]? with
 | some (.lst ds)=> .ok ds h
 | _=> .bad
noncomputable def zbE (n:Nat) (ds:List D):M Unit:=fun h=> .ok () (h.set n (.lst ds))
theorem zcv {n:Nat} {h h':Hh} {ds:List D} (e:zao n h= .ok ds h'):h'=h/\h[n]? = some (.lst ds):=by
 unfold zao at e
 cases z:h[n]? with
 | none=>rw [z] at e;cases e
 | some c=>
  rw [z] at e
  cases c with
  | lst xs=>cases e;exact ⟨rfl,rfl⟩
  | dic _=>cases e
  | dit ks=>cases e
  | ins _ _=>cases e
  | dead=>cases e
noncomputable def ofO {α:Type}:Option α->M α
 | some a=>pure a
 | none=>M.bad
noncomputable def dIx:D->D->M D:=fun x y=>match x,y with
 | .tup ds,.int i=>ofO (atI ds i)
 | .lst ds,.int i=>ofO (atI ds i)
 | .scr ds,.int i=>ofO (atI ds i)
 | .cel n,.int i=>do let ds<-zao n;ofO (atI ds i)
 | _,_=>M.bad
theorem zfH {K:W.Frag} {ι:Io} {H:Hp} {ds:List D} {vs:List V} {i:Int} {d:D} (rl:zas K ι H ds vs) (e:atI ds i=some d): ∃ v,atI vs i=some v/\Rel K ι H d v:=by
 unfold atI at e ⊢
 rw [<- rl.length]
 cases z:ixN ds.length i with
 | none=>rw [z] at e;cases e
 | some j=>
  rw [z] at e
  have e:ds[j]? = some d:=e
  exact rl.get e
section
variable {X:Cx} {E:XE}
theorem Fin.ofO {α:Type} {K:W.Frag} {ι:Io} {H:Hp} {h:Hh} {o:Option α} {P:α->Io->Hp->Prop} (hr:zbb K ι H h) (q:Fin K E ι H (L3.ofO o h) P): ∃ a,o=some a/\P a ι H:=by
 cases o with
 | none=>exact qa0 q
 | some a=>exact ⟨a,rfl,Fin.out hr q⟩
theorem zu0:IxR X (zc7 X.K E dIx):=by
 refine IxR.imp (zpp.or zrj) fun x y H Q ⟨ι,h,d1,d2,r1,r2,hr,q⟩=> ?_
 cases d2 with
 | int i=>
  simp only [Rel] at r2
  cases d1 with
  | tup ds=>
   obtain ⟨a,vs,e,h1,h2⟩:=zdc r1
   obtain ⟨d,e1,q⟩:=Fin.ofO hr q
   obtain ⟨v,e2,rv⟩:=zfH h2 e1
   exact .inr ⟨a,vs,i,v,e,r2,h1,e2,q v rv⟩
  | lst ds=>
   obtain ⟨a,vs,e,h1,h2⟩:=zeb r1
   obtain ⟨d,e1,q⟩:=Fin.ofO hr q
   obtain ⟨v,e2,rv⟩:=zfH h2 e1
   exact .inl ⟨a,vs,i,v,e,r2,h1,e2,q v rv⟩
  | scr ds=>
   obtain ⟨a,vs,e,h1,h2⟩:=zle r1
   obtain ⟨d,e1,q⟩:=Fin.ofO hr q
   obtain ⟨v,e2,rv⟩:=zfH h2 e1
   exact .inl ⟨a,vs,i,v,e,r2,h1,e2,q v rv⟩
  | cel n=>
   have q:Fin X.K E ι H ((zao n>>=fun ds=>L3.ofO (atI ds i)) h) _:=q
   have q':Fin X.K E ι H (M.bind (zao n) (fun ds=>L3.ofO (atI ds i)) h) _:=q
   unfold M.bind at q'
   cases z:zao n h with
   | bad=>rw [z] at q';exact qa0 q'
   | exc c h'=>unfold zao at z;split at z<;>cases z
   | ok ds h'=>
    rw [z] at q'
    obtain ⟨rfl,z2⟩:=zcv z
    obtain ⟨a,vs,e,hn,hH,rl⟩:=hr.read r1 z2
    obtain ⟨d,e1,q⟩:=Fin.ofO hr q'
    obtain ⟨v,e2,rv⟩:=zfH rl e1
    exact .inl ⟨a,vs,i,v,e,r2,SqL.of hH,e2,q v rv⟩
  | _=>exact qa0 q
 | _=>cases d1<;>exact qa0 q
noncomputable def zkJ (o i d:D):M Unit:=match o,i with
 | .cel n,.int k=>do
  let ds<-zao n
  let j<-ofO (ixN ds.length k)
  zbE n (ds.set j d)
 | _,_=>M.bad
theorem zry {o i:Expr} {pos:Pos} {fo fi:Sd->M D} (hp: ∀ {t:zsv},zsR X t->PG X (.Subscript o i pos) (zug (zg3 X.K E fo) (zg3 X.K E fi) t)):
  SG X E (.Subscript o i pos) (fun d sd=>do let x<-fo sd;let y<-fi sd;zkJ x y d;pure sd):=by
 refine PG.imp (hp zlZ) fun v σ H Q ⟨ι,h,sd,d,L,hr,rd,q⟩=>⟨ι,h,sd,L,hr,Fin.bind q fun x h1 ι1 H1 e1 s1 hr1 q1 xv rx=> ?_⟩
 refine ⟨ι1,h1,sd,L.step s1,hr1,Fin.bind q1 fun y h2 ι2 H2 e2 s2 hr2 q2 yv ry=> ?_⟩
 cases x with
 | cel n=>
  cases y with
  | int k=>
   have rx2:=rx.step s2
   have q3:Fin X.K E ι2 H2 ((zao n>>=fun ds=>(ofO (ixN ds.length k)>>=fun j=>zbE n (ds.set j d)>>=fun _=>pure sd)) h2) (fun sd' ι' H'=> ∀ σ',zcB X.K ι' H' sd' σ'->Q σ' H'):=by
    have e:(do zkJ (.cel n) (.int k) d;pure sd:M Sd)=(zao n>>=fun ds=>(ofO (ixN ds.length k)>>=fun j=>zbE n (ds.set j d)>>=fun _=>pure sd)):=by
     show ((zao n>>=fun ds=>(ofO (ixN ds.length k)>>=fun j=>zbE n (ds.set j d)))>>=fun _=>pure sd)=_
     simp only [bind_assoc]
    rw [<- e]
    exact q2
   have q':Fin X.K E ι2 H2 (M.bind (zao n) (fun ds=>(ofO (ixN ds.length k)>>=fun j=>zbE n (ds.set j d)>>=fun _=>pure sd)) h2) _:=q3
   unfold M.bind at q'
   cases z:zao n h2 with
   | bad=>rw [z] at q';exact qa0 q'
   | exc c h'=>unfold zao at z;split at z<;>cases z
   | ok ds h'=>
    rw [z] at q'
    obtain ⟨rfl,z2⟩:=zcv z
    obtain ⟨a,vs,e,hn,hH,rl⟩:=hr2.read rx2 z2
    simp only [Rel] at ry
    have q4:Fin X.K E ι2 H2 (M.bind (ofO (ixN ds.length k)) (fun j=>zbE n (ds.set j d)>>=fun _=>pure sd) h') _:=q'
    unfold M.bind at q4
    cases z3:ixN ds.length k with
    | none=>rw [z3] at q4;exact qa0 q4
    | some j=>
     rw [z3] at q4
     have q5:Fin X.K E ι2 H2 (R.ok sd (h'.set n (.lst (ds.set j d)))) (fun sd' ι' H'=> ∀ σ',zcB X.K ι' H' sd' σ'->Q σ' H'):=q4
     refine ⟨a,vs,k,j,e,ry,hH,by rw [<- rl.length];exact z3,?_⟩
     have rd2:=(rd.step s1).step s2
     exact q5 ι2 _ (hr2.cellS hn) (hr2.cell hn (rl.set rd2 j)) σ (((L.step s1).step s2).step (hr2.cellS hn))
  | _=>exact qa0 q2
 | _=>cases y<;>exact qa0 q2
end
noncomputable abbrev E0x:XE:=fun _ _=>False
noncomputable def zb9 (K:W.Frag) (n:Nat) (F:List D->M D):Sp:=fun vs H Q _=>vs.length=n/\ ∃ ι h ds,zas K ι H ds vs/\zbb K ι H h/\Fin K E0x ι H (F ds h) fun d ι' H'=> ∀ v,Rel K ι' H' d v->Q v H'
noncomputable def zfn (n:Nat) (ds:List D):Sd:=ds.map some++List.replicate (n - ds.length) none
noncomputable def zc3:Out->M D
 | .nx _=>pure .non
 | .rt d=>pure d
 | _=>M.bad
noncomputable def zc4 (n:Nat) (G:Sd->M Out) (ds:List D):M D:=do let o<-G (zfn n ds);zc3 o
theorem zdR {K:W.Frag} {ι:Io} {H:Hp} {ds:List D} {vs:List V} {N:List Str} (h:zas K ι H ds vs):zcB K ι H (zfn N.length ds) (L2.zdP N vs):=by
 have hl:=h.length
 unfold zfn L2.zdP
 refine ⟨by simp [hl],fun i d e=> ?_⟩
 by_cases hi:i<ds.length
 ·rw [qad (by simpa using hi),List.getElem?_map] at e
  cases z:ds[i]? with
  | none=>rw [z] at e;cases e
  | some d'=>
   rw [z] at e
   cases e
   obtain ⟨v,h1,h2⟩:=h.get z
   exact ⟨v,by rw [qad (by rw [qaH, <-hl];exact hi),List.getElem?_map,h1];rfl,h2⟩
 ·rw [qaa (by simpa using hi),List.getElem?_replicate] at e
  split at e<;>cases e
section
variable {P:Program} {w:World} {K:W.Frag} {mg:Str->Option Value} {base:Heap}
theorem zbF {x qual:Str} {st:Stmt} {f:Addr} {fd:FuncData} {N ps:List Str} {k:Nat} {G:Sd->M Out} (F:Fun K x qual st f fd) (S:zau N ps (zae st))
  (hb: ∀ (cdv:Value) (A:Around) (outer:List Env) (s:Shared) (H:Hp) (E:XK),zdN k (A.deeper (envOfC qual (zae st) s.heap.objs.size f cdv))->SSs (zg4 CX0 P w K mg base N qual (zae st) f cdv A outer s H E).nox E0x (zcq st) G):
  zb6 P w K mg base CX0 (k+1) f fd ps (zb9 K ps.length (zc4 N.length G)):=by
 refine F.ok S (fun vs H Q E h=>h.1) fun cdv A outer s H vs Q E hr ⟨hl,ι,h,ds,rl,hh,q⟩=>⟨_,hb cdv A outer s H E hr,ι,h,zfn N.length ds,zdR rl,hh,?_⟩
 refine Fin.bind q fun o h1 ι1 H1 e1 s1 hr1 q1=> ?_
 cases o with
 | nx sd=>exact fun σ' _=>Fin.out hr1 q1 _ (by simp [Rel])
 | rt d=>exact fun v rv=>Fin.out hr1 q1 v rv
 | bk sd=>exact qa0 q1
 | ct sd=>exact qa0 q1
end
section
variable {X:Cx} {e:Expr} {es:List Expr} {pos p:Pos}
noncomputable def zay (n:Nat) (F:List D->M D) (ds:List D):M D:=if ds.length=n then F ds else M.bad
theorem zo9 {k:Nat} {f:Addr} {fd:FuncData} {ps:List Str} {n:Nat} {F:List D->M D} {fs:Sd->M (List D)} {x:Str} (G:zb6 X.prog X.w X.K X.mg X.base CX0 k f fd ps (zb9 X.K n F)) (hr:zdN k X.A) (hg:Gl X x) (hm:X.mg x=some (.ref f)) (hk:W.keepIn X.K (.ref f)=true) (hb:zaS X.K fd ps [])
  (ha:SA X E0x (e::es) fs) (hdb:(x==("__debug__":Str))=false:=by decide) (he:starEach (e::es) X.env=(false,eval e X.env)::starEach es X.env:=by rfl) (hpl:(backTo pos (starEach es X.env)).any (·.1)=false:=by rfl):
  SE X E0x (.Call (.Name x p) (e::es) [] pos) (fun sd=>do let ds<-fs sd;zay n F ds):=by
 refine PE.imp (zhd G hr hg hm hk hb (dvs:=[]) .nil (E:=fun _ _ _=>False) zqm ha hdb he hpl) fun σ H Q ⟨ι,h,sd,L,hh,q⟩=>⟨ι,h,sd,L,hh,Fin.bind q fun ds h1 ι1 H1 e1 s1 hr1 q1 vs rv=> ?_⟩
 show zb9 X.K n F (vs++[]) H1 Q _
 rw [List.append_nil]
 unfold zay at q1
 by_cases hl:ds.length=n
 ·rw [qa4 hl] at q1
  exact ⟨by rw [<- rv.length];exact hl,ι1,h1,ds,rv,hr1,q1⟩
 ·rw [qa5 hl] at q1
  exact qa0 q1
end
section
variable {X:Cx} {E:XE}
theorem Fin.guard {α:Type} {K:W.Frag} {ι:Io} {H:Hp} {h:Hh} {c:Prop} [Decidable c] {f:M α} {P:α->Io->Hp->Prop} (q:Fin K E ι H ((if c then f else M.bad) h) P):c/\Fin K E ι H (f h) P:=by
 by_cases hc:c
 ·rw [qa4 hc] at q;exact ⟨hc,q⟩
 ·rw [qa5 hc] at q;exact qa0 q
theorem zlx:OpR X (binaryOp .Add) (fun x y H Q=> ∃ a b ys,x= .ref a/\y= .ref b/\SqT X.K H a []/\SqT X.K H b ys/\Q (.ref b) H):=by
 intro pins s σ H x y v u Q I rx ry h
 obtain ⟨a,b,ys,rfl,rfl,ha,hb,q⟩:=h
 cases rx
 cases ry
 obtain ⟨its,r1,p1,_⟩:=I.tuple ha
 obtain ⟨its2,r2,p2,_⟩:=I.tuple hb
 cases r1
 obtain ⟨⟨cls,dd,data,sl⟩,ho,hc,n,hd⟩:=id p1
 obtain ⟨⟨cls2,dd2,data2,sl2⟩,ho2,hc2,n2,hd2⟩:=id p2
 simp only at hc hd hc2 hd2
 subst hc hd hc2 hd2
 exact concat_meets ⟨_,ho,rfl⟩ ⟨_,ho2,rfl⟩ noFill_tuple_add seq_tuple_add PySem.F.slot_tuple_add PySem.F.entry_tuple_add (PySem.F.args_tuple_add_2 _ _)
   (tuple_addW0 a b _ _ n n2 dd dd2 sl sl2 (by simp)) ⟨ho,ho2,⟨.ref b,H,I,rfl,q⟩⟩
noncomputable def zdK (x y:D):M D:=match x,y with
 | .int i,.int j=>pure (.int (i+j))
 | .tup xs,.tup ys=>do fits (xs.length+ys.length);pure (.tup (xs++ys))
 | .lst xs,.lst ys=>do fits (xs.length+ys.length);pure (.lst (xs++ys))
 | .str x,.str y=>do fits (x.length+y.length);pure (.str (x++y))
 | _,_=>M.bad
theorem zaP:OpR X (binaryOp .Add) (zc7 X.K E zdK):=by
 refine OpR.imp (zrI.or (zlx.or (zpn.or (zrM.or ziG)))) fun x y H Q ⟨ι,h,d1,d2,r1,r2,hr,q⟩=> ?_
 unfold zdK at q
 split at q
 ·simp only [Rel] at r1 r2
  exact .inl ⟨_,_,r1,r2,Fin.out hr q _ (by simp [Rel])⟩
 ·rename_i xs ys
  right
  obtain ⟨a,vs,e,h1,h2⟩:=zdc r1
  obtain ⟨b,ws,e',h1',h2'⟩:=zdc r2
  obtain ⟨z,q⟩:=Fin.fits q
  cases xs with
  | nil=>
   simp only [zas] at h2
   subst h2
   exact .inl ⟨a,b,ws,e,e',h1,h1',Fin.out hr q _ (by rw [<- e'];exact r2)⟩
  | cons x0 xr=>
   refine .inr (.inl ⟨a,b,vs,ws,e,e',h1,h1',fun z=> ?_,by rw [<- h2.length, <-h2'.length];exact z,fun z=> ?_,fun z p hp=>zsB hr (h2.append h2') q hp⟩)
   ·subst z
    have:=h2.length
    cases this
   ·subst z
    have:=h2'.length
    cases ys with
    | nil=>rw [List.append_nil] at q;exact Fin.out hr q _ (by rw [<- e];exact r1)
    | cons _ _=>cases this
 ·rename_i xs ys
  right;right;right;left
  simp only [Rel] at r1 r2
  obtain ⟨a,vs,e,h1,h2⟩:=r1
  obtain ⟨b,ws,e',h1',h2'⟩:=r2
  obtain ⟨z,q⟩:=Fin.fits q
  exact ⟨a,b,vs,ws,e,e',h1.1,h1'.1,by rw [<- h2.length, <-h2'.length];exact z,fun p hp=>zr4 hr (h2.append h2') q hp⟩
 ·simp only [Rel] at r1 r2
  obtain ⟨z,q⟩:=Fin.fits q
  exact .inr (.inr (.inr (.inr ⟨_,_,r1,r2,z,Fin.out hr q _ (by simp [Rel])⟩)))
 ·exact qa0 q
noncomputable def dII (C:Int->Int->Bool) (g:Int->Int->D) (x y:D):M D:=match x,y with
 | .int i,.int j=>if C i j=true then pure (g i j) else M.bad
 | _,_=>M.bad
theorem zhP {f:Value->Value->Sem Value} {C:Int->Int->Bool} {C':Int->Int->Prop} {g:Int->Int->V} {g':Int->Int->D} (ho:OpR X f (rI C' g)) (hc: ∀ i j,C i j=true->C' i j) (hg: ∀ i j ι H,Rel X.K ι H (g' i j) (g i j)):OpR X f (zc7 X.K E (dII C g')):=by
 refine OpR.imp ho fun x y H Q ⟨ι,h,d1,d2,r1,r2,hr,q⟩=> ?_
 unfold dII at q
 split at q
 ·simp only [Rel] at r1 r2
  obtain ⟨c,q⟩:=Fin.guard q
  exact ⟨_,_,r1,r2,hc _ _ c,Fin.out hr q _ (hg _ _ _ _)⟩
 ·exact qa0 q
theorem zgy {f:Value->Value->Sem Value} {g:Int->Int->V} {g':Int->Int->D} (ho:OpR X f (rI0 g)) (hg: ∀ i j ι H,Rel X.K ι H (g' i j) (g i j)):OpR X f (zc7 X.K E (dII (fun _ _=>true) g')):=by
 refine OpR.imp ho fun x y H Q ⟨ι,h,d1,d2,r1,r2,hr,q⟩=> ?_
 unfold dII at q
 split at q
 ·simp only [Rel] at r1 r2
  obtain ⟨c,q⟩:=Fin.guard q
  exact ⟨_,_,r1,r2,Fin.out hr q _ (hg _ _ _ _)⟩
 ·exact qa0 q
noncomputable def zpF:=dII (fun _ _=>true) fun i j=> .int (i - j)
theorem zfO:OpR X (binaryOp .Sub) (zc7 X.K E zpF):=zgy zqO fun _ _ _ _=>by simp [Rel]
noncomputable def zbk (i:Int):Bool:=decide (-(2^64)<i) && decide (i<2^64)
theorem zcG {i:Int} (h:zbk i=true): -(2^64)<i/\i<2^64:=by unfold zbk at h;simpa using h
theorem zlu:OpR X (binaryOp .FloorDiv) (rI (fun _ j=>0<j/\j<2^64) fun i j=> .int (i / j)):=opI fun i j _ _ _ _ _ hc q=>by
 refine floordiv_int (by omega) (by rw [Int.fdiv_eq_ediv_of_nonneg _ (by omega)];exact q) (.inl (PyProof.noPylong_of_log2 ?_))
 have h1:j.natAbs<2^64:=by omega
 have h0:j.natAbs≠0:=by omega
 exact Nat.lt_trans ((Nat.log2_lt h0).mpr h1) (by decide)
noncomputable def zma:=dII (fun _ j=>decide (0<j) && decide (j<2^64)) fun i j=> .int (i / j)
theorem zio:OpR X (binaryOp .FloorDiv) (zc7 X.K E zma):=zhP zlu (fun i j h=>by simpa using h) fun _ _ _ _=>by simp [Rel]
noncomputable def zl0:=dII (fun _ j=>decide (0<j)) fun i j=> .int (i % j)
theorem zdf:OpR X (binaryOp .Mod) (zc7 X.K E zl0):=zhP zqC (fun i j h=>by simpa using h) fun _ _ _ _=>by simp [Rel]
noncomputable def zpC (i j:Int):Bool:=decide (0<=j) && decide (j<=1000000) && decide (i.natAbs<2^64)
noncomputable def zsF:=dII zpC fun i j=> .int (i^j.toNat)
theorem zh0 {i j:Int} (h:zpC i j=true):zsw i j:=by unfold zpC at h;simpa [zsw,and_assoc] using h
theorem zoJ:OpR X (binaryOp .Pow) (zc7 X.K E zsF):=zhP zr6 (fun _ _=>zh0) fun _ _ _ _=>by simp [Rel]
noncomputable def zs3:=dII zpC fun i j=> .int (i*2^j.toNat)
theorem zoZ:OpR X (binaryOp .LShift) (zc7 X.K E zs3):=zhP zqX (fun _ _=>zh0) fun _ _ _ _=>by simp [Rel]
noncomputable def zsZ:=dII (fun _ j=>decide (0<=j)) fun i j=> .int (i / 2^j.toNat)
theorem zn3:OpR X (binaryOp .RShift) (zc7 X.K E zsZ):=zhP zqr (fun i j h=>by simpa using h) fun _ _ _ _=>by simp [Rel]
noncomputable def zt4:=dII (fun _ _=>true) fun i j=> .int (Builtin.bitAnd i j)
theorem zo0:OpR X (binaryOp .BitAnd) (zc7 X.K E zt4):=zgy zrh fun _ _ _ _=>by simp [Rel]
noncomputable def dLt:=dII (fun _ _=>true) fun i j=> .bl (decide (i<j))
theorem zgM:OpR X (compareOp .Lt) (zc7 X.K E dLt):=zgy zsP fun _ _ _ _=>by simp [Rel]
noncomputable def dGt:=dII (fun _ _=>true) fun i j=> .bl (decide (j<i))
theorem zgh:OpR X (compareOp .Gt) (zc7 X.K E dGt):=zgy zsW fun _ _ _ _=>by simp [Rel]
noncomputable def dGe:=dII (fun _ _=>true) fun i j=> .bl (decide (j<=i))
theorem zmG:OpR X (compareOp .GtE) (zc7 X.K E dGe):=zgy zsT fun _ _ _ _=>by simp [Rel]
noncomputable def zlF:D->M D
 | .int i=>pure (.int (-i))
 | _=>M.bad
theorem zqi {a:Expr} {pos:Pos} {fa:Sd->M D} (ha:SE X E a fa):SE X E (.UnaryOp .USub a pos) (fun sd=>do let x<-fa sd;zlF x):=by
 refine PE.imp (zs9 zrQ ha) fun σ H Q ⟨ι,h,sd,L,hh,q⟩=>⟨ι,h,sd,L,hh,Fin.bind q fun d h1 ι1 H1 e1 s1 hr1 q1 v rv=> ?_⟩
 cases d with
 | int i=>simp only [Rel] at rv;exact ⟨i,rv,Fin.out hr1 q1 _ (by simp [Rel])⟩
 | _=>exact qa0 q1
mutual
noncomputable def pd:D->Option PyData
 | .non=>some .none
 | .bl b=>some (.bool b)
 | .int i=>some (.int i)
 | .str x=>some (.str x)
 | .tup xs=>(pdL xs).map .tuple
 | .lst xs=>(pdL xs).map .list
 | .scr xs=>(pdL xs).map .list
 | _=>none
noncomputable def pdL:List D->Option (List PyData)
 | []=>some []
 | x::xs=>match pd x,pdL xs with
  | some a,some r=>some (a::r)
  | _,_=>none
end
mutual
theorem zgI {pins:List (Addr×Obj)} {σ:L2.St} {H:Hp} {s:Shared} {ι:Io} (I:Inv X pins σ H s): ∀ {d:D} {v:V} {u:Value} {p:PyData},Rel X.K ι H d v->zby v u->pd d=some p-> ∃ as,Reads s.heap u p as
 | .non,v,u,p,r,ru,e=>by simp only [Rel] at r;subst r;cases ru;cases e;exact ⟨_,.none⟩
 | .bl b,v,u,p,r,ru,e=>by simp only [Rel] at r;subst r;cases ru;cases e;exact ⟨_,.bool _⟩
 | .int i,v,u,p,r,ru,e=>by simp only [Rel] at r;subst r;obtain ⟨t,rfl⟩:=ru;cases e;exact ⟨_,.int _ _⟩
 | .str i,v,u,p,r,ru,e=>by simp only [Rel] at r;subst r;obtain ⟨t,rfl⟩:=ru;cases e;exact ⟨_,.str _ _⟩
 | .tup ds,v,u,p,r,ru,e=>by
  obtain ⟨a,vs,rfl,h1,h2⟩:=zdc r
  cases ru
  obtain ⟨its,rv,pl,_⟩:=I.tuple h1
  obtain ⟨o,ho,hc,n,hd⟩:=pl
  unfold pd at e
  cases z:pdL ds with
  | none=>rw [z] at e;cases e
  | some ps=>
   rw [z] at e;cases e
   obtain ⟨as,q⟩:=zgv I h2 rv z
   exact ⟨_,.tuple ho hc hd (by simpa using q)⟩
 | .lst ds,v,u,p,r,ru,e=>by
  obtain ⟨a,vs,rfl,h1,h2⟩:=zeb r
  cases ru
  obtain ⟨its,rv,pl,_⟩:=I.list h1
  obtain ⟨o,ho,hc,n,hd⟩:=pl.isList
  unfold pd at e
  cases z:pdL ds with
  | none=>rw [z] at e;cases e
  | some ps=>
   rw [z] at e;cases e
   obtain ⟨as,q⟩:=zgv I h2 rv z
   exact ⟨_,.list ho hc hd (by simpa using q)⟩
 | .scr ds,v,u,p,r,ru,e=>by
  obtain ⟨a,vs,rfl,h1,h2⟩:=zle r
  cases ru
  obtain ⟨its,rv,pl,_⟩:=I.list h1
  obtain ⟨o,ho,hc,n,hd⟩:=pl.isList
  unfold pd at e
  cases z:pdL ds with
  | none=>rw [z] at e;cases e
  | some ps=>
   rw [z] at e;cases e
   obtain ⟨as,q⟩:=zgv I h2 rv z
   exact ⟨_,.list ho hc hd (by simpa using q)⟩
 | .cel n,_,_,_,_,_,e=>by cases e
 | .set xs,_,_,_,_,_,e=>by cases e
 | .dct,_,_,_,_,_,e=>by cases e
 | .fn _,_,_,_,_,_,e=>by cases e
 | .exn _,_,_,_,_,_,e=>by cases e
theorem zgv {pins:List (Addr×Obj)} {σ:L2.St} {H:Hp} {s:Shared} {ι:Io} (I:Inv X pins σ H s): ∀ {ds:List D} {vs:List V} {us:List Value} {ps:List PyData},zas X.K ι H ds vs->zbm vs us->pdL ds=some ps-> ∃ as,ReadsAll s.heap us ps as
 | [],vs,us,ps,r,ru,e=>by simp only [zas] at r;subst r;cases ru;cases e;exact ⟨_,.nil⟩
 | d::ds,vs,us,ps,r,ru,e=>by
  simp only [zas] at r
  obtain ⟨v,vr,rfl,r1,r2⟩:=r
  cases ru with
  | cons ru1 ru2=>
   unfold pdL at e
   cases z:pd d with
   | none=>rw [z] at e;cases e
   | some a=>
    cases z2:pdL ds with
    | none=>rw [z,z2] at e;cases e
    | some b=>
     rw [z,z2] at e
     cases e
     obtain ⟨as,q1⟩:=zgI I r1 ru1 z
     obtain ⟨bs,q2⟩:=zgv I r2 ru2 z2
     exact ⟨_,.cons q1 q2⟩
end
noncomputable def zf4 (a b:PyData):Bool:=a.canLay0 && b.canLay0 && decide (min a.depth b.depth<=60)
noncomputable def zja (neg:Bool) (x y:D):M D:=match pd x,pd y with
 | some a,some b=>if zf4 a b=true then pure (.bl (if neg then !PyData.eqv a b else PyData.eqv a b)) else M.bad
 | _,_=>M.bad
noncomputable def dEq:=zja false
noncomputable def dNe:=zja true
theorem zft {a b:PyData} (h:zf4 a b=true):a.canLay0=true/\b.canLay0=true/\min a.depth b.depth<=60:=by unfold zf4 at h;simpa [and_assoc] using h
theorem zir {K:W.Frag} {ι:Io} {H:Hp} {h:Hh} {neg:Bool} {x y:D} {P:D->Io->Hp->Prop} (q:Fin K E ι H (zja neg x y h) P): ∃ a b,pd x=some a/\pd y=some b/\zf4 a b=true/\Fin K E ι H ((pure (.bl (if neg then !PyData.eqv a b else PyData.eqv a b)):M D) h) P:=by
 unfold zja at q
 cases e1:pd x with
 | none=>rw [e1] at q;exact qa0 q
 | some a=>
  cases e2:pd y with
  | none=>rw [e1,e2] at q;exact qa0 q
  | some b=>
   rw [e1,e2] at q
   obtain ⟨c,q⟩:=Fin.guard q
   exact ⟨a,b,rfl,rfl,c,q⟩
theorem zd0 (hu:X.A.units+60<cLine):OpR X (compareOp .Eq) (zc7 X.K E dEq):=by
 intro pins s σ H x y v u Q I rx ry ⟨ι,h,d1,d2,r1,r2,hr,q⟩
 obtain ⟨a,b,e1,e2,c,q2⟩:=zir q
 obtain ⟨c1,c2,c3⟩:=zft c
 obtain ⟨as,ra⟩:=zgI I r1 rx e1
 obtain ⟨bs,rb⟩:=zgI I r2 ry e2
 exact SeqAt.compareEq_reads ra rb c1 c2 (by omega) ⟨.bl _,H,I,rfl,Fin.out hr q2 (.bl _) (by simp [Rel])⟩
theorem zc8 (hu:X.A.units+60<cLine):OpR X (compareOp .NotEq) (zc7 X.K E dNe):=by
 intro pins s σ H x y v u Q I rx ry ⟨ι,h,d1,d2,r1,r2,hr,q⟩
 obtain ⟨a,b,e1,e2,c,q2⟩:=zir q
 obtain ⟨c1,c2,c3⟩:=zft c
 obtain ⟨as,ra⟩:=zgI I r1 rx e1
 obtain ⟨bs,rb⟩:=zgI I r2 ry e2
 exact SeqAt.compareNe_reads ra rb c1 c2 (by omega) ⟨.bl _,H,I,rfl,Fin.out hr q2 (.bl _) (by simp [Rel])⟩
noncomputable def zpw (a:PyData) (xs:List PyData):Bool:=a.canLay0 && PyData.canLayAll0 xs && decide (min (PyData.depthAll xs) a.depth<=50)
theorem zmF {a:PyData} {xs:List PyData} (h:zpw a xs=true):a.canLay0=true/\PyData.canLayAll0 xs=true/\min (PyData.depthAll xs) a.depth<=50:=by unfold zpw at h;simpa [and_assoc] using h
noncomputable def zrl (neg:Bool) (x c:D):M D:=match pd x,c with
 | some a,.tup ds=>match pdL ds with
  | some xs=>if zpw a xs=true then pure (.bl (if neg then !xs.any (fun y=>PyData.eqv y a) else xs.any fun y=>PyData.eqv y a)) else M.bad
  | none=>M.bad
 | some a,.lst ds=>match pdL ds with
  | some xs=>if zpw a xs=true then pure (.bl (if neg then !xs.any (fun y=>PyData.eqv y a) else xs.any fun y=>PyData.eqv y a)) else M.bad
  | none=>M.bad
 | _,_=>M.bad
noncomputable def dIn:=zrl false
theorem zl7 {K:W.Frag} {ι:Io} {H:Hp} {h:Hh} {neg:Bool} {x c:D} {P:D->Io->Hp->Prop} (q:Fin K E ι H (zrl neg x c h) P): ∃ a ds xs,pd x=some a/\pdL ds=some xs/\(c= .tup ds\/c= .lst ds)/\zpw a xs=true/\
  Fin K E ι H ((pure (.bl (if neg then !xs.any (fun y=>PyData.eqv y a) else xs.any fun y=>PyData.eqv y a)):M D) h) P:=by
 unfold zrl at q
 cases e1:pd x with
 | none=>rw [e1] at q;exact qa0 q
 | some a=>
  rw [e1] at q
  cases c with
  | tup ds=>
   dsimp only at q
   cases e2:pdL ds with
   | none=>rw [e2] at q;exact qa0 q
   | some xs=>
    rw [e2] at q
    obtain ⟨c,q⟩:=Fin.guard q
    exact ⟨a,ds,xs,rfl,e2,.inl rfl,c,q⟩
  | lst ds=>
   dsimp only at q
   cases e2:pdL ds with
   | none=>rw [e2] at q;exact qa0 q
   | some xs=>
    rw [e2] at q
    obtain ⟨c,q⟩:=Fin.guard q
    exact ⟨a,ds,xs,rfl,e2,.inr rfl,c,q⟩
  | _=>exact qa0 q
theorem zkI (hu:X.A.units+60<cLine):OpR X (compareOp .In) (zc7 X.K E dIn):=by
 intro pins s σ H x y v u Q I rx ry ⟨ι,h,d1,d2,r1,r2,hr,q⟩
 obtain ⟨a,ds,xs,e1,e2,ec,c,q2⟩:=zl7 q
 obtain ⟨c1,c2,c3⟩:=zmF c
 obtain ⟨as,ra⟩:=zgI I r1 rx e1
 rcases ec with rfl | rfl
 ·obtain ⟨bs,rb⟩:=zgI I r2 ry (p:= .tuple xs) (by unfold pd;rw [e2];rfl)
  exact SeqAt.in_tuple_reads rb ra c2 c1 (by omega) ⟨.bl _,H,I,rfl,Fin.out hr q2 (.bl _) (by simp [Rel])⟩
 ·obtain ⟨bs,rb⟩:=zgI I r2 ry (p:= .list xs) (by unfold pd;rw [e2];rfl)
  exact SeqAt.in_list_reads rb ra c2 c1 (by omega) ⟨.bl _,H,I,rfl,Fin.out hr q2 (.bl _) (by simp [Rel])⟩
end
end L3
namespace HT
open PySem PySem.Spec PyProof.Rows L2
section
variable {prog:Program} {w:World} {A:Around} {E:Value->Shared->Prop} {s:Shared}
end
end HT
namespace L2
open PySem PySem.Spec PyProof.Rows
section
variable {X:Cx} {e:Expr} {te:TE} {pos p2:Pos}
theorem zee:fillsNumberSlot (.type "tuple") "mul"=pure false:=
 PySem.fillsNumberSlot_seq (id:="tuple.__mul__") (r:=some (.builtin "tuple.__rmul__")) F.slot_tuple_mul.lookup (by decide +kernel) F.slot_tuple_rmul.lookup (by decide +kernel)
theorem zg1:seqRepeat? (.type "tuple")=pure (some (.builtin "tuple.__mul__")):=by
 unfold seqRepeat?
 rw [PySem.seqSlot_of (T:="tuple") (name:="__mul__") (id:="tuple.__mul__") F.slot_tuple_mul.lookup (by decide +kernel),PySem.seqSlot_of (T:="tuple") (name:="__rmul__") (id:="tuple.__rmul__") F.slot_tuple_rmul.lookup (by decide +kernel)]
 rfl
theorem ze9 (k:Int) (t:Tok) (l:Addr) (items:Array Value) (n:Nat) (dd:Option Addr) (sl:Array (Option Value)):
  Meets (Builtin.«int.__rmul__» ⟨[.int k t,.ref l],[]⟩) (fun _ R s=>s.heap.get? l=some {cls:= .type "tuple",dict:=dd,data:= .seq items n,slots:=sl}/\R (.ok (.ret Value.notImplemented)) s):=
 .of_wp fun prog w A R s h=>by obtain ⟨hp,g,d,tk,os⟩:=s;obtain ⟨hl,h⟩:=h;wp_walk;exact ⟨_,rfl,h⟩
theorem zjN (k:Int) (t:Tok) (l:Addr) (items:Array Value) (n:Nat) (dd:Option Addr) (sl:Array (Option Value)) (hne:items.isEmpty=false) (hk:2<=k) (hk2:k<1000) (hz:items.size*k.toNat<=sizeLine):
  Meets (Builtin.«tuple.__mul__» ⟨[.ref l,.int k t],[]⟩) (fun _ R s=>s.heap.get? l=some {cls:= .type "tuple",dict:=dd,data:= .seq items n,slots:=sl}/\
    R (.ok (.ret (.ref s.heap.objs.size))) {s with heap:=s.heap.push {cls:= .type "tuple",data:= .seq ((List.replicate k.toNat items).foldl (· ++ ·) #[])}}):=
 .of_wp fun prog w A R s h=>by
  obtain ⟨hp,g,d,tk,os⟩:=s;obtain ⟨hl,h⟩:=h
  unfold Builtin.«tuple.__mul__» 
  wp_walk
  have hk63: ¬(decide (k< -2^63) || decide (k>=2^63))=true:=by
   rw [Bool.or_eq_true,qaD,qaD]
   omega
  rw [qa5 hk63]
  dsimp only
  have ht:IsTup hp l items:=⟨_,hl,rfl,_,rfl⟩
  refine qaW (tupleItemsOf_ ht ?_)
  have h1: ¬(items.isEmpty || k==1)=true:=by
   rw [hne,Bool.false_or,beq_iff_eq]
   omega
  rw [qa5 h1]
  have h2: ¬(decide (k<=0) || items.isEmpty)=true:=by
   rw [hne,Bool.or_false,qaD]
   omega
  rw [qa5 h2]
  have hk0:((k.toNat:Nat):Int)=k:=Int.toNat_of_nonneg (by omega)
  have hm:((items.size:Nat):Int)*k=((items.size*k.toNat:Nat):Int):=by rw [Int.natCast_mul,hk0]
  have hsl:(sizeLine:Nat)=16777216:=by decide
  have h3: ¬((items.size:Int)*k>(2^63 - 1) / 8):=by
   rw [hm]
   omega
  rw [qa5 h3]
  have h4: ¬Builtin.Tuple.tupleTooMany ((items.size:Int)*k)=true:=by
   unfold Builtin.Tuple.tupleTooMany
   rw [hm,qaD]
   omega
  rw [qa5 h4]
  have hsz:sizeOk (.seq (List.foldl (fun x1 x2=>x1++x2) #[] (List.replicate k.toNat items))):=by
   show (List.foldl (fun x1 x2=>x1++x2) #[] (List.replicate k.toNat items)).size<=sizeLine
   have e: ∀ (m:Nat) (acc:Array Value),(List.foldl (fun x1 x2=>x1++x2) acc (List.replicate m items)).size=acc.size+m*items.size:=by
    intro m
    induction m with
    | zero=>intro acc;simp
    | succ m ih=>intro acc;rw [List.replicate_succ,List.foldl_cons,ih,Array.size_append,Nat.succ_mul];omega
   rw [e,Nat.mul_comm]
   simpa using hz
  exact qaW (m:=Builtin.Tuple.tupleExact _) (qaC (qaX ⟨_,rfl,h⟩) hsz)
theorem zoh:OpR X (binaryOp .Mult) (fun x y H Q=> ∃ a k xs,x= .ref a/\y= .int k/\SqT X.K H a xs/\xs≠[]/\2<=k/\k<1000/\xs.length*k.toNat<=sizeLine/\ ∀ p,H p=none->Q (.ref p) (upd H p (.tup (List.replicate k.toNat xs).flatten))):=by
 intro pins s σ H x y v u Q I rx ry h
 obtain ⟨a,k,xs,rfl,rfl,hx,hne,h1,h2,hz,q⟩:=h
 cases rx
 obtain ⟨t,rfl⟩:=ry
 obtain ⟨its,r,ht,_⟩:=I.tuple hx
 have hl:=r.length
 obtain ⟨⟨cls,dd,data,sl⟩,ho,hc,n,hd⟩:=id ht
 simp only at hc hd
 subst hc hd
 have hemp:its.toArray.isEmpty=false:=by
  cases its with
  | nil=>cases r;exact absurd rfl hne
  | cons _ _=>simp
 refine wpAny_binaryOp_repeat_ref (T:="tuple") (U:="int") (by decide) ⟨_,ho,rfl⟩ (fun s'=>typeIs_int s' k t) zee F.fills_int_mul F.slot_int_rmul zg1 F.slot_int_index.lookup
  (call_meets F.slot_int_rmul (typeIs_int s k t) F.entry_int_rmul (F.args_int_rmul_2 _ _) (ze9 k t a its.toArray n dd sl)
    ⟨ho,rfl,⟨_,ho,rfl⟩,call_meets F.slot_tuple_mul ⟨_,ho,rfl⟩ F.entry_tuple_mul (F.args_tuple_mul_2 _ _) (zjN k t a its.toArray n dd sl hemp h1 h2 (by rw [qaA, <-hl];exact hz)) ⟨ho,?_⟩⟩)
 have hnew:List.foldl (fun x1 x2=>x1++x2) #[] (List.replicate k.toNat its.toArray)=(List.replicate k.toNat its).flatten.toArray:=by
  have:=zev its k.toNat []
  rw [List.nil_append] at this
  exact this
 rw [hnew]
 refine ⟨.ref _,_,I.laid (t':=s.toks) (o:= .tup (List.replicate k.toNat xs).flatten) (fun b ob q=>qag _ q) (qaV _) ?_,rfl,q _ (I.hok.fresh (qaV _))⟩
 exact ⟨by rw [zjA,Nat.mul_comm];exact hz,_,r.rep k.toNat,zi2.new _ _⟩
end
end L2
namespace LT
open PySem PySem.Spec PyProof.Rows
noncomputable abbrev Up (xs:Array Nat):Prop:=xs.toList.Pairwise (· < ·)
theorem Up.lt {xs:Array Nat} (h:Up xs) {i j:Nat} {a b:Nat} (hi:xs[i]? = some a) (hj:xs[j]? = some b) (hij:i<j):a<b:=by
 have hi':xs.toList[i]? = some a:=by simpa using hi
 have hj':xs.toList[j]? = some b:=by simpa using hj
 obtain ⟨h1,e1⟩:=qac.mp hi'
 obtain ⟨h2,e2⟩:=qac.mp hj'
 have:=List.pairwise_iff_getElem.mp h i j h1 h2 hij
 rw [e1,e2] at this
 exact this
theorem zfP {xs:Array Nat} (h:Up xs) (j:Nat): ∀ (fuel lo hi:Nat),hi - lo<=fuel->lo<=hi->hi<=xs.size->(∀ i a,i<lo->xs[i]? = some a->a<j)->(∀ i a,hi<=i->xs[i]? = some a->j<=a)->
  let r:=SetTable.below.go xs j fuel lo hi
  r<=xs.size/\(∀ i a,i<r->xs[i]? = some a->a<j)/\(∀ i a,r<=i->xs[i]? = some a->j<=a)
 | 0,lo,hi,hf,hl,hs,h1,h2=>by
  have e:lo=hi:=by omega
  subst e
  exact ⟨hs,h1,h2⟩
 | fuel+1,lo,hi,hf,hl,hs,h1,h2=>by
  unfold SetTable.below.go
  by_cases hlt:lo<hi
  ·rw [qa4 hlt]
   have hm:(lo+hi) / 2<xs.size:=by omega
   have em:xs[(lo+hi) / 2]? = some xs[(lo+hi) / 2]:=by simp [hm]
   have eg:xs.getD ((lo+hi) / 2) j=xs[(lo+hi) / 2]:=by simp [Array.getD,hm]
   dsimp only
   by_cases hc:xs.getD ((lo+hi) / 2) j<j
   ·rw [qa4 hc]
    refine zfP h j fuel _ hi (by omega) (by omega) hs (fun i a hi' e=> ?_) h2
    rw [eg] at hc
    by_cases z:i=(lo+hi) / 2
    ·subst z;rw [em] at e;cases e;exact hc
    ·exact Nat.lt_trans (h.lt e em (by omega)) hc
   ·rw [qa5 hc]
    refine zfP h j fuel lo _ (by omega) (by omega) (by omega) h1 fun i a hi' e=> ?_
    rw [eg] at hc
    by_cases z:i=(lo+hi) / 2
    ·subst z;rw [em] at e;cases e;omega
    ·have:=h.lt em e (by omega)
     omega
  ·rw [qa5 hlt]
   have e:lo=hi:=by omega
   subst e
   exact ⟨hs,h1,h2⟩
theorem zfA {xs:Array Nat} (h:Up xs) (j:Nat):SetTable.below xs j<=xs.size/\(∀ i a,i<SetTable.below xs j->xs[i]? = some a->a<j)/\(∀ i a,SetTable.below xs j<=i->xs[i]? = some a->j<=a):=
 zfP h j xs.size 0 xs.size (by omega) (Nat.zero_le _) (qaV _) (fun _ _ z=>absurd z (Nat.not_lt_zero _)) fun i a z e=>by
  have:=(qab.mp e).1
  omega
theorem zfm {xs:Array Nat} (h:Up xs) {k a:Nat} (e:xs[k]? = some a):SetTable.below xs (a+1)=k+1:=by
 obtain ⟨h1,h2,h3⟩:=zfA h (a+1)
 by_cases c:SetTable.below xs (a+1)<=k
 ·have:=h3 k a c e
  omega
 ·by_cases c2:k+1<SetTable.below xs (a+1)
  ·have hl:k+1<xs.size:=by omega
   have e2:xs[k+1]? = some xs[k+1]:=by simp [hl]
   have a1:=h2 (k+1) _ c2 e2
   have a2:=h.lt e e2 (by omega)
   omega
  ·omega
theorem zfp {xs:Array Nat} (h:Up xs):SetTable.below xs 0=0:=by
 obtain ⟨h1,h2,h3⟩:=zfA h 0
 by_cases c:SetTable.below xs 0=0
 ·exact c
 ·have hl:0<xs.size:=by omega
  exact absurd (h2 0 _ (by omega) (show xs[0]? = some xs[0] by simp [hl])) (Nat.not_lt_zero _)
theorem zku {xs:Array Nat} (h:Up xs) {j:Nat} (hn:xs[SetTable.below xs j]? ≠ some j):Up (SetTable.insertAt xs (SetTable.below xs j) j):=by
 obtain ⟨h1,h2,h3⟩:=zfA h j
 show (SetTable.insertAt xs (SetTable.below xs j) j).toList.Pairwise (· < ·)
 rw [SetTable.toList_insertAt]
 rw [List.pairwise_append]
 have hsplit:xs.toList.take (SetTable.below xs j)++xs.toList.drop (SetTable.below xs j)=xs.toList:=List.take_append_drop ..
 have hp:(xs.toList.take (SetTable.below xs j)++xs.toList.drop (SetTable.below xs j)).Pairwise (· < ·):=by rw [hsplit];exact h
 obtain ⟨p1,p2,p3⟩:=List.pairwise_append.mp hp
 have tk: ∀ a∈xs.toList.take (SetTable.below xs j),a<j:=fun a ha=>by
  obtain ⟨i,hi⟩:=List.mem_iff_getElem?.mp ha
  rw [List.getElem?_take] at hi
  split at hi
  ·rename_i hlt
   exact h2 i a hlt (by simpa using hi)
  ·cases hi
 have dr: ∀ a∈xs.toList.drop (SetTable.below xs j),j<a:=fun a ha=>by
  obtain ⟨i,hi⟩:=List.mem_iff_getElem?.mp ha
  rw [List.getElem?_drop] at hi
  have hi':xs[SetTable.below xs j+i]? = some a:=by simpa using hi
  have a1:=h3 _ a (by omega) hi'
  rcases Nat.lt_or_eq_of_le a1 with z | z
  ·exact z
  ·subst z
   exfalso
   cases i with
   | zero=>exact hn hi'
   | succ i=>
    have hl:=(qab.mp hi').1
    have e0:xs[SetTable.below xs j]? = some xs[SetTable.below xs j]:=by
     have:SetTable.below xs j<xs.size:=by omega
     simp [this]
    have b1:=h3 _ _ (qaV _) e0
    have b2:=h.lt e0 hi' (by omega)
    omega
 refine ⟨p1,qay.mpr ⟨dr,p2⟩,fun a ha b hb=> ?_⟩
 rcases qaP.mp hb with z | z
 ·rw [z];exact tk a ha
 ·exact p3 a ha b z
structure zha (t:SetTable) (led:Bool):Prop where
 up:Up t.place
 nod:t.dummies= #[]
 led:t.led=led
theorem zic {j:Nat}:SetTable.has #[] j=false:=by
 unfold SetTable.has
 simp
theorem zjr {t:SetTable} {led:Bool} (g:zha t led) {j:Nat} (h:t.slot j= .empty):t.place[SetTable.below t.place j]? ≠ some j:=fun e=>by
 unfold SetTable.slot at h
 dsimp only at h
 rw [e] at h
 simp at h
theorem zh7 {t:SetTable} {led:Bool} (g:zha t led) (f:Nat->Int) (h:Int): ∀ (fuel:Nat) (p:SetTable.Probe) (j:Nat) (d:Option Nat),p.dummy=none->SetTable.probe.go t f h fuel p=some (.empty j d)->t.slot j= .empty/\d=none
 | 0,_,_,_,_,e=>by cases e
 | fuel+1,p,j,d,hp,e=>by
  unfold SetTable.probe.go at e
  have adv: ∀ q:SetTable.Probe,q.dummy=none->(t.advance q).dummy=none:=fun q hq=>by
   unfold SetTable.advance
   split<;>exact hq
  split at e
  ·rename_i hs
   cases e
   exact ⟨hs,hp⟩
  ·rename_i hs
   exfalso
   unfold SetTable.slot at hs
   dsimp only at hs
   rw [g.nod,zic] at hs
   split at hs<;>simp at hs
  ·split at e
   ·cases e
   ·exact zh7 g f h fuel _ j d (adv p hp) e
theorem zf2 {t:SetTable} {led:Bool} (g:zha t led) {h:Int} {j:Nat} {b:Bool} (e:t.freeSlot h=some (j,b)):t.place[SetTable.below t.place j]? ≠ some j:=by
 unfold SetTable.freeSlot at e
 split at e
 ·rename_i j' d' hpr
  obtain ⟨h1,h2⟩:=zh7 g _ _ _ _ _ _ rfl hpr
  subst h2
  cases e
  exact zjr g h1
 ·cases e
theorem zmk (n:Nat):Up (Array.range n):=by
 show (Array.range n).toList.Pairwise (· < ·)
 rw [Array.toList_range]
 exact List.pairwise_lt_range
theorem zcf {t:SetTable} {led:Bool} (g:zha t led) (n:Nat):zha (t.standIn n) led:=⟨zmk n,rfl,g.led⟩
theorem zhx {t:SetTable} {led:Bool} (g:zha t led) (es:Array (Int×Value)) (h:Int) (x:Value):zha (layNew t es h x).2.1 led:=by
 unfold layNew
 split
 ·rename_i slot wasDummy e
  have g2:zha (t.put slot).1 led:=by
   refine ⟨zku g.up (zf2 g e),?_,g.led⟩
   show (if SetTable.has t.dummies slot then _ else t.dummies)= #[]
   rw [g.nod,zic]
   rfl
  show zha ((t.put slot).1.orStandIn _) led
  unfold SetTable.orStandIn
  split
  ·exact g2
  ·exact zcf g2 _
 ·exact zcf g _
theorem zjl {mask finger moves:Nat} {led plain:Bool} {hs:Array Int} {t:SetTable} {o:Array Nat} (e:SetTable.laid mask finger moves led plain hs=some (t,o)):zha t led:=by
 unfold SetTable.laid at e
 cases z:SetTable.layClean mask hs with
 | none=>rw [z] at e;cases e
 | some owner=>
  rw [z] at e
  have e:some (({mask,place:=(((List.range (mask+1)).filterMap fun j=>(owner.getD j none).map (j, ·)).map (·.1)).toArray,dummies:= #[],finger,led,moves,plain}:SetTable),_)=some (t,o):=e
  cases e
  refine ⟨?_,rfl,rfl⟩
  show (((List.range (mask+1)).filterMap fun j=>(owner.getD j none).map (j, ·)).map (·.1)).toArray.toList.Pairwise (· < ·)
  rw [List.toList_toArray,List.map_filterMap]
  have sub:List.Sublist ((List.range (mask+1)).filterMap fun j=>((owner.getD j none).map (j, ·)).map (·.1)) (List.range (mask+1)):=by
   generalize List.range (mask+1)=l
   induction l with
   | nil=>exact .slnil
   | cons a r ih=>
    rw [qat]
    cases q:owner.getD a none with
    | none=>exact ih.cons a
    | some v=>exact ih.cons₂ a
  exact List.pairwise_lt_range.sublist sub
theorem zfZ {t:SetTable} {led:Bool} (g:zha t led) (es:Array (Int×Value)) (wanted:Nat):zha (relayAll t es wanted).2.1 led:=by
 unfold relayAll
 split
 ·rename_i t' order e
  have g2:zha t' t.led:=zjl e
  rw [g.led] at g2
  dsimp only
  split
  ·exact g2
  ·exact zcf g _
 ·exact zcf g _
noncomputable def zcD (w:World):Bool:= !w.params.followText "set-order"
def zf7 (prog:Program) (w:World) (h:Heap) (a:Addr) (S:Int->Bool) (n:Nat):Prop:=
 ∃ ob es ep tb,(h.get? a=some ob/\ob.ExactSet/\ob.data= .set es ep tb)/\ElemsOf (intKind prog w) es.toList/\(∀ k,S k=true↔ ∃ e∈es.toList,(intKind prog w).is k e.2=true)/\
  (es.size<scanBound/\tb.fits es.size=true/\es.size=n)/\zha tb (zcD w)
theorem zf7.move {prog:Program} {w:World} {h h':Heap} {a:Addr} {S S':Int->Bool} {n n':Nat} (g:zf7 prog w h a S n) (k: ∀ ob,h.get? a=some ob->h'.get? a=some ob) (e: ∀ k,S k=S' k) (en:n=n'):zf7 prog w h' a S' n':=by
 obtain ⟨ob,es,ep,tb,⟨h1,h2,h3⟩,h4,h5,⟨h6,h7,h8⟩,h9⟩:=g
 exact ⟨ob,es,ep,tb,⟨k ob h1,h2,h3⟩,h4,fun z=>by rw [<- e z];exact h5 z,⟨h6,h7,h8.trans en⟩,h9⟩
section
variable {prog:Program} {w:World} {A:Around} {E:Value->Shared->Prop} {s:Shared}
theorem stored {a:Addr} {ob:Obj} {es es':Array (Int×Value)} {ep:Nat} {tb tb':SetTable} {S:Int->Bool} {R:Unit->Shared->Prop} (ho:s.heap.get? a=some ob) (hx:ob.ExactSet) (hd:ob.data= .set es ep tb)
  (hE:ElemsOf (intKind prog w) es'.toList) (hS: ∀ k,S k=true↔ ∃ e∈es'.toList,(intKind prog w).is k e.2=true) (hb:es'.size<scanBound) (hf:tb'.fits es'.size=true) (hg:zha tb' (zcD w))
  (q: ∀ h',Heap.SameBut a s.heap h'->h'.get? a=some {ob with data:= .set es' (ep+1) tb'}->zf7 prog w h' a S es'.size->R () {s with heap:=h'}):wpAny (model prog w) A (storeSet a es' tb') R E s:=by
 have put:=putSet_of es' tb' hd
 have at1:(s.heap.update a (Obj.putSet es' tb')).get? a=some {ob with data:= .set es' (ep+1) tb'}:=by
  have z:=qal (Obj.putSet es' tb') ho (by rw [put];rfl)
  rwa [put] at z
 exact wpAny_storeSet_of ho hd (q _ (Heap.SameBut.update ..) at1 ⟨_,es',ep+1,tb',⟨at1,hx,rfl⟩,hE,hS,⟨hb,hf,rfl⟩,hg⟩) (fits_of_scanBound hb)
theorem zuA {a:Addr} {S:Int->Bool} {n:Nat} {k:Int} {t:Tok} {Q:Bool->Shared->Prop} (g:zf7 prog w s.heap a S n) (room:n+1<scanBound)
  (q: ∀ h' b,Heap.SameBut a s.heap h'->zf7 prog w h' a (fun z=>S z || decide (z=k)) (if S k then n else n+1)->Q b {s with heap:=h'}):
  wpAny (model prog w) A (setAddHashed a (.int k t) ((intKind prog w).hash k)) Q E s:=by
 have kis:(intKind prog w).is k (.int k t)=true:=intKind_is _ _ _ _
 obtain ⟨ob,es,ep,tb,⟨h1,h2,h3⟩,h4,h5,⟨h6,h7,h8⟩,h9⟩:=g
 have scn:(Value.int k t).scannable=true:=rfl
 unfold setAddHashed setAddHashedIn
 refine qaO (qaW (wpAny_setState_of h1 h3 h7 ?_))
 dsimp only
 rw [qa4 (byScan_of scn h6 h4)]
 refine qaW ?_
 unfold setAddByScan
 refine qaW (wpAny_rule (qaW (wpAny_setScan_of kis h1 h3 h7 h4 ?_)))
 cases fi:List.findIdx? (fun e=>(intKind prog w).is k e.2) es.toList with
 | some j=>
  obtain ⟨lj,pj,_⟩:=List.findIdx?_eq_some_iff_getElem.mp fi
  have inS:S k=true:=(h5 k).mpr ⟨_,List.getElem_mem lj,pj⟩
  refine qaX (qaX ?_)
  have z:=q s.heap false (Heap.SameBut.refl ..) ⟨ob,es,ep,tb,⟨h1,h2,h3⟩,h4,fun y=> ?_,⟨h6,h7,by rw [inS];exact h8⟩,h9⟩
  ·exact z
  ·rw [<- h5 y,Bool.or_eq_true,qaD]
   exact ⟨fun c=>c.elim id fun c=>by rw [c];exact inS,.inl⟩
 | none=>
  have noS:S k=false:=by
   rw [<- Bool.not_eq_true,h5 k]
   rintro ⟨e,he,pe⟩
   have:=List.findIdx?_eq_none_iff.mp fi e he
   rw [pe] at this
   cases this
  have L1:=layNew_perm tb es ((intKind prog w).hash k) (.int k t)
  have L2:=layNew_fits tb es ((intKind prog w).hash k) (.int k t)
  have L3:=zhx h9 es ((intKind prog w).hash k) (.int k t)
  generalize hl:layNew tb es ((intKind prog w).hash k) (.int k t)=ln at L1 L2 L3 ⊢
  obtain ⟨es1,tb1,wd,gv⟩:=ln
  dsimp only at L1 L2 L3 ⊢
  rw [Array.toList_push] at L1
  have E1:ElemsOf (intKind prog w) es1.toList:=(h4.push kis scn).perm L1
  have M1: ∀ y,(S y || decide (y=k))=true↔ ∃ e∈es1.toList,(intKind prog w).is y e.2=true:=mem_push_iff kis h5 L1
  have Z1:es1.size=n+1:=by
   have z:=L1.length_eq
   rw [qav,qas,qas] at z
   rw [z,h8];rfl
  have B1:es1.size<scanBound:=by rw [Z1];exact room
  have quiet: ∀ (b:Bool) (s1:Shared) (R:Unit->Shared->Prop),R () s1->wpAny (model prog w) A (match b with | true=>rule "set.scan.the-table-gave-way" | false=>pure ()) R E s1:=fun b s1 R z=>by
   cases b
   ·exact qaX z
   ·exact wpAny_rule z
  have fin: ∀ (s1:Shared) (h':Heap),s1={s with heap:=h'}->Heap.SameBut a s.heap h'->zf7 prog w h' a (fun y=>S y || decide (y=k)) es1.size->Q true s1:=fun s1 h' e1 sb gg=>by
   subst e1
   have z:=q h' true sb
   rw [noS] at z
   exact z (by rw [Z1] at gg;exact gg)
  refine qaW (quiet _ _ _ ?_)
  have tail: ∀ (gw:Bool->Sem Unit),(∀ (b:Bool) (s1:Shared) (R:Unit->Shared->Prop),R () s1->wpAny (model prog w) A (gw b) R E s1)->wpAny (model prog w) A (do
      storeSet a es1 tb1
      if (!wd && tb1.tooFull)=true then do
        gw (relayAll tb1 es1 (SetTable.grown es1.size)).2.2
        storeSet a (relayAll tb1 es1 (SetTable.grown es1.size)).1 (relayAll tb1 es1 (SetTable.grown es1.size)).2.1
        pure (some true)
      else pure (some true)) (fun r s'=>wpAny (model prog w) A (match r with | some b=>pure b | none=>setAddHashedIn a (.int k t) ((intKind prog w).hash k) 99999) Q E s') E s:=by
   intro gw hgw
   refine qaW (stored h1 h2 h3 E1 M1 B1 L2 L3 fun h' sb at1 gg=> ?_)
   by_cases full:(!wd && tb1.tooFull)=true
   ·rw [qa4 full]
    have P2:=relayAll_perm tb1 es1 (SetTable.grown es1.size)
    have F2:=relayAll_fits tb1 es1 (SetTable.grown es1.size)
    have G2:=zfZ L3 es1 (SetTable.grown es1.size)
    generalize relayAll tb1 es1 (SetTable.grown es1.size)=rl at P2 F2 G2 ⊢
    obtain ⟨es2,tb2,gv2⟩:=rl
    dsimp only at P2 F2 G2 ⊢
    have Z2:es2.size=es1.size:=by
     have z:=P2.length_eq
     rwa [qas,qas] at z
    refine qaW (hgw _ _ _ (qaW (stored (s:={s with heap:=h'}) (S:=fun y=>S y || decide (y=k)) at1 h2 rfl (E1.perm P2) (fun y=>(M1 y).trans ?_) (by rw [Z2];exact B1) F2 G2 fun h'' sb2 _ gg2=> ?_)))
    ·exact ⟨fun ⟨e,he,pe⟩=>⟨e,P2.mem_iff.mpr he,pe⟩,fun ⟨e,he,pe⟩=>⟨e,P2.mem_iff.mp he,pe⟩⟩
    ·exact qaX (qaX (fin _ h'' rfl (sb.trans sb2) (by rw [Z2] at gg2;exact gg2)))
   ·rw [qa5 full]
    exact qaX (qaX (fin _ h' rfl sb gg))
  split
  ·rw [hashByValue_scannable 8 scn]
   refine qaW (qaX ?_)
   exact tail _ fun b s1 R z=>by cases b<;>first | exact qaX z | exact wpAny_rule z
  ·refine qaW (qaX ?_)
   exact tail _ fun b s1 R z=>by cases b<;>first | exact qaX z | exact wpAny_rule z
end
section
variable {prog:Program} {w:World} {A:Around} {R:Result->Shared->Prop} {it:Addr} {fp wr:List Addr} {G:Array GenState->Array GenState->Prop} {n:Nat} {P:Nat->Value->Prop} {St:Nat->Shared->Prop}
theorem zua (W:WalksS prog w A.in1 it fp wr G n P St) (a:Addr) (ha:a∉fp) (val:Nat->Int) (hval: ∀ i v,P i v-> ∃ t,v= .int (val i) t) (room:n+1<scanBound):
  ∀ (left i:Nat) (s:Shared),n - i=left->i<=n->St i s->zf7 prog w s.heap a (fun z=>(firstMet val i).any (· == z)) (firstMet val i).length->
   (∀ s',Moved (a::wr) G s s'->zf7 prog w s'.heap a (fun z=>(firstMet val n).any (· == z)) (firstMet val n).length->R (.ok (.ret .none)) s')->
   codeAny (model prog w) A (.builtin "set.update.loop" ⟨[.ref a,.ref it],[]⟩) R s:=by
 have awr:a∉wr:=fun z=>ha (W.sub _ z)
 have more: ∀ b∈wr,b∈a::wr:=fun b z=> .tail _ z
 intro left
 induction left with
 | zero=>
  intro i s hleft hin st g q
  obtain rfl:i=n:=by omega
  refine codeAny_builtin F.entry_set_update_loop ?_
  rw [qap F.plain_set_update_loop _]
  show wpAny _ _ (pyNext (.ref it)>>=_) _ _ _
  refine qaW (W.done s _ _ st fun s' mv=> ?_)
  exact qaX (q s' (mv.mono more) (g.move (fun ob e=>mv.heap a ob awr e) (fun _=>rfl) rfl))
 | succ left ih=>
  intro i s hleft hin st g q
  have hi:i<n:=by omega
  refine codeAny_builtin F.entry_set_update_loop ?_
  rw [qap F.plain_set_update_loop _]
  show wpAny _ _ (pyNext (.ref it)>>=_) _ _ _
  refine qaW (W.item i s _ _ hi st fun v s1 pv st1 mv=> ?_)
  obtain ⟨t,rfl⟩:=hval i v pv
  have g1:zf7 prog w s1.heap a (fun z=>(firstMet val i).any (· == z)) (firstMet val i).length:=g.move (fun ob e=>mv.heap a ob awr e) (fun _=>rfl) rfl
  show wpAny _ _ (holding [Value.int (val i) t] (setAdd a (.int (val i) t))>>=_) _ _ _
  refine qaW (qaO ?_)
  unfold setAdd
  refine qaO (qaW ((intKind prog w).pyHash (k:=val i) (intKind_is _ _ _ _) ?_))
  have few:=firstMet_length_le val i
  refine zuA (s:={s1 with toks:=s1.toks+1}) g1 (by omega) fun h2 b sb g2=> ?_
  have g3:zf7 prog w h2 a (fun z=>(firstMet val (i+1)).any (· == z)) (firstMet val (i+1)).length:=
   g2.move (fun _ e=>e) (fun z=>by rw [firstMet_succ,step_any]) (by rw [firstMet_succ,step_length])
  have off: ∀ b,b≠a->h2.get? b=s1.heap.get? b:=fun b hb=>sb.2 b hb
  refine qaX ⟨plainId_quiet F.plain_set_update_loop _,ih (i+1) _ (by omega) hi (W.frame _ s1 _ _ st1 (Nat.le_succ _) fun b hb ob e=> ?_) g3 fun s3 mv3 g4=> ?_⟩
  ·rw [off b fun z=>ha (z▸hb)]
   exact e
  ·refine q s3 (.trans W.gtrans ((mv.mono more).then_heap (Nat.le_succ _) fun b ob hb e=> ?_) mv3) g4
   rw [off b fun z=>hb (z▸ .head _)]
   exact e
end
section
variable {prog:Program} {w:World} {A:Around} {E:Value->Shared->Prop} {s:Shared}
theorem znl (h:Heap):zf7 prog w (h.push {cls:= .type "set",dict:=none,data:= .set #[] 0 (.fresh 0 0 (zcD w))}) h.objs.size (fun _=>false) 0:=
 ⟨_, #[],0,_,⟨qar _ rfl,⟨rfl,rfl,rfl⟩,rfl⟩,fun e he=>by simp at he,fun k=>by simp,⟨by decide,rfl,rfl⟩,⟨List.Pairwise.nil,rfl,rfl⟩⟩
theorem zuU (x:Value) {Q:Value->Shared->Prop} (q:Q (.ref s.heap.objs.size) {s with heap:=s.heap.push {cls:= .type "set",dict:=none,data:= .set #[] 0 (.fresh 0 0 (zcD w))}}):
  codeAny (model prog w) A (.call (.builtin "set.__new__") ⟨[.type "set",x],[]⟩) (wants Q E) s:=by
 refine codeAny_of_tree ?_
 show wpAny _ _ (do checkBuiltinCall "set.__new__" ⟨[.type "set",x],[]⟩;again (.builtin "set.__new__" ⟨[.type "set",x],[]⟩)) _ _ _
 refine qaW (wpAny_of_eq (F.newCall_set_1 x) (qaX ⟨plainId_quiet F.plain_set_new _,codeAny_builtin F.entry_set_new ?_⟩))
 rw [qap F.plain_set_new _]
 unfold Builtin.«set.__new__» Builtin.Frozenset.newClass
 have self:=sub_set_self
 obtain ⟨hp,gs,dr,tk,os⟩:=s
 dsimp only
 wp_walk
 refine wpAny_askSetting (qaX ?_)
 dsimp only
 simp only [newObj]
 exact qaW (wpAny_alloc (qaX (qaX q)))
theorem zud {l:Addr} {T:String} {items:Array Value} {ns:List Int} {Q:Value->Shared->Prop} (hh:A.handled=none) (hT:(T="list"/\s.heap.IsList l items)\/(T="tuple"/\s.heap.IsTuple l items)) (hi:IntsAre items.toList ns) (room:items.size+1<scanBound)
  (q: ∀ (h':Heap) (tk:Nat),zf7 prog w h' s.heap.objs.size (fun z=>(firstMet (fun i=>ns.getD i 0) items.size).any (· == z)) (firstMet (fun i=>ns.getD i 0) items.size).length->(∀ b ob,s.heap.get? b=some ob->h'.get? b=some ob)->
    Q (.ref s.heap.objs.size) {s with heap:=h',toks:=tk}):wpAny (model prog w) A (call (.type "set") [.ref l]) Q E s:=by
 obtain ⟨c,tl,hmro⟩:=F.called_set.mro
 have hmade:=F.called_set.made
 have hsub:=F.called_set.sub
 refine wpAny_call (codeAny_of_tree ?_)
 show wpAny _ _ (callAny (.type "set") _) _ _ _
 refine qaX ⟨Code.quiet_builtin _ (by decide +kernel),codeAny_builtin F.entry_type_call ?_⟩
 rw [Around.under_plain (weight_type_call_type "set" [.ref l] []) rfl]
 have hnt:=F.called_set.notType
 have hcc:=F.called_set.canCreate
 have htc:=F.typeCall_set_1 (.ref l)
 repeat' (first | assumption | wp_step)
 refine codeAny_mono (zuU (.ref l) (E:=E) (Q:=fun v s1=>v= .ref s.heap.objs.size/\s1={s with heap:=s.heap.push {cls:= .type "set",dict:=none,data:= .set #[] 0 (.fresh 0 0 (zcD w))}}) ⟨rfl,rfl⟩) fun r s1 hr=> ?_
 cases r with
 | error e=>exact hr
 | ok fl=>
  cases fl with
  | ret v=>
   obtain ⟨rfl,rfl⟩:=hr
   have laid:(s.heap.push {cls:= .type "set",dict:=none,data:= .set #[] 0 (.fresh 0 0 (zcD w))}).get? s.heap.objs.size=some {cls:= .type "set",dict:=none,data:= .set #[] 0 (.fresh 0 0 (zcD w))}:=qar _ rfl
   have isSet:Shared.TypeIs {s with heap:=s.heap.push {cls:= .type "set",dict:=none,data:= .set #[] 0 (.fresh 0 0 (zcD w))}} (.ref s.heap.objs.size) "set":=⟨_,laid,rfl⟩
   have hli:=F.called_set.init.lookup
   have hbi:=F.called_set.init.bind (.ref s.heap.objs.size)
   repeat' (first | assumption | wp_step)
   refine codeAny_mono (codeAny_call_builtin (R:=wants (fun z s2=>z= .none/\ ∃ h' tk,s2={s with heap:=h',toks:=tk}/\
       zf7 prog w h' s.heap.objs.size (fun z=>(firstMet (fun i=>ns.getD i 0) items.size).any (· == z)) (firstMet (fun i=>ns.getD i 0) items.size).length/\(∀ b ob,s.heap.get? b=some ob->h'.get? b=some ob)) E) F.called_set.init.plain F.entry_set_init (check_set_init_1 isSet ?_)) fun r2 s2 hr2=> ?_
   ·have keepL: ∀ ob,s.heap.get? l=some ob->(s.heap.push {cls:= .type "set",dict:=none,data:= .set #[] 0 (.fresh 0 0 (zcD w))}).get? l=some ob:=fun ob e=>qag _ e
    have hval: ∀ (i:Nat) (v:Value),items[i]? = some v-> ∃ t,v= .int ((fun i=>ns.getD i 0) i) t:=fun i v hv=>IntsAre.int_at hi i v (by rw [Array.getElem?_toList];exact hv)
    have hh3:A.in1.in1.in1.handled=none:=by simp [hh]
    have done1: ∀ (l0:Addr) (h0:Heap) (s':Shared),l0=s.heap.objs.size->Moved [l0,(s.heap.push {cls:= .type "set",dict:=none,data:= .set #[] 0 (.fresh 0 0 (zcD w))}).objs.size] (fun a b=>b=a) {s with heap:=h0} s'->(∀ b ob,s.heap.get? b=some ob->h0.get? b=some ob)->
      (∀ b ob,s.heap.get? b=some ob->s'.heap.get? b=some ob)/\s'={s with heap:=s'.heap,toks:=s'.toks}:=fun l0 h0 s' e0 mv k0=>by
     refine ⟨fun b ob e=>mv.heap b ob (fun z=> ?_) (k0 b ob e),?_⟩
     ·have lt:=qaQ e
      rw [qaL,e0] at z
      simp only [qaP,qaF,or_false] at z
      rcases z with z | z
      ·exact qaN _ (z▸lt)
      ·exact qaN _ (Nat.lt_of_succ_lt (z▸lt))
     ·obtain ⟨h',g',d',tk',os'⟩:=s'
      have eg:g'=s.gens:=mv.gens
      have ed:d'=s.drawn:=mv.drawn
      have eo:os'=s.os:=mv.os
      subst eg ed eo
      rfl
    unfold Builtin.«set.__init__» noKeywords Builtin.Frozenset.updateFrom
    generalize hPI:pyIter=PI
    rcases hT with ⟨rfl,hl⟩ | ⟨rfl,hl⟩
    ·obtain ⟨⟨ocl,odi,oda,osl⟩,hol,hcl,nl,hdl⟩:=hl
     simp only at hcl hdl
     subst hcl hdl
     have hol':=keepL _ hol
     have f1:=F.sub_list_set
     have f2:=F.sub_list_frozenset
     have f3:(Value.type "list"==Value.type "dict")=false:=by decide
     wp_walk
     subst hPI
     have hl1:(s.heap.push {cls:= .type "set",dict:=none,data:= .set #[] 0 (.fresh 0 0 (zcD w))}).IsList l items:=⟨_,hol',rfl,nl,rfl⟩
     refine wpAny_pyIter_list hl1 ?_
     refine qaW (wpAny_runValue ?_)
     have ltl:l<s.heap.objs.size:=qaQ hol
     have szp:(s.heap.push {cls:= .type "set",dict:=none,data:= .set #[] 0 (.fresh 0 0 (zcD w))}).objs.size=s.heap.objs.size+1:=qaL ..
     have ne1:l≠(s.heap.push {cls:= .type "set",dict:=none,data:= .set #[] 0 (.fresh 0 0 (zcD w))}).objs.size:=by rw [szp];exact qaR (Nat.lt_succ_of_lt ltl)
     have ne2:s.heap.objs.size∉[(s.heap.push {cls:= .type "set",dict:=none,data:= .set #[] 0 (.fresh 0 0 (zcD w))}).objs.size,l]:=by
      rw [szp]
      simp only [qaP,qaF,or_false]
      rintro (z | z)
      ·exact Nat.succ_ne_self _ z.symm
      ·exact qaN _ (z▸ltl)
     refine zua ((Walks.list hh3 _ l ne1 items).toS) s.heap.objs.size ne2 (fun i=>ns.getD i 0) hval room _ 0 _ rfl (Nat.zero_le _) ⟨⟨_,qar _ rfl,rfl,rfl⟩,hl1.push _⟩ ?g0 fun s' mv gg=> ?_
     case g0=>exact (znl s.heap).move (fun ob e=>qag _ e) (fun _=>rfl) rfl
     obtain ⟨k1,k2⟩:=done1 _ _ s' rfl mv fun b ob e=>qag _ (qag _ e)
     exact qaX (qaX ⟨rfl,s'.heap,s'.toks,k2,gg,k1⟩)
    ·obtain ⟨⟨ocl,odi,oda,osl⟩,hol,hcl,nl,hdl⟩:=hl
     simp only at hcl hdl
     subst hcl hdl
     have hol':=keepL _ hol
     have f1:=F.sub_tuple_set
     have f2:=F.sub_tuple_frozenset
     have f3:(Value.type "tuple"==Value.type "dict")=false:=by decide
     wp_walk
     subst hPI
     have hl1:(s.heap.push {cls:= .type "set",dict:=none,data:= .set #[] 0 (.fresh 0 0 (zcD w))}).IsTuple l items:=⟨_,hol',rfl,nl,rfl⟩
     refine wpAny_pyIter_tuple hl1 ?_
     refine qaW (wpAny_runValue ?_)
     have ltl:l<s.heap.objs.size:=qaQ hol
     have szp:(s.heap.push {cls:= .type "set",dict:=none,data:= .set #[] 0 (.fresh 0 0 (zcD w))}).objs.size=s.heap.objs.size+1:=qaL ..
     have ne1:l≠(s.heap.push {cls:= .type "set",dict:=none,data:= .set #[] 0 (.fresh 0 0 (zcD w))}).objs.size:=by rw [szp];exact qaR (Nat.lt_succ_of_lt ltl)
     have ne2:s.heap.objs.size∉[(s.heap.push {cls:= .type "set",dict:=none,data:= .set #[] 0 (.fresh 0 0 (zcD w))}).objs.size,l]:=by
      rw [szp]
      simp only [qaP,qaF,or_false]
      rintro (z | z)
      ·exact Nat.succ_ne_self _ z.symm
      ·exact qaN _ (z▸ltl)
     refine zua ((Walks.tuple hh3 _ l ne1 items).toS) s.heap.objs.size ne2 (fun i=>ns.getD i 0) hval room _ 0 _ rfl (Nat.zero_le _) ⟨⟨_,qar _ rfl,rfl,rfl⟩,⟨_,qag _ hol',rfl,nl,rfl⟩⟩ ?g0 fun s' mv gg=> ?_
     case g0=>exact (znl s.heap).move (fun ob e=>qag _ e) (fun _=>rfl) rfl
     obtain ⟨k1,k2⟩:=done1 _ _ s' rfl mv fun b ob e=>qag _ (qag _ e)
     exact qaX (qaX ⟨rfl,s'.heap,s'.toks,k2,gg,k1⟩)
   ·cases r2 with
    | error e=>exact hr2
    | ok fl2=>
     cases fl2 with
     | ret z=>
      obtain ⟨rfl,h',tk,rfl,gg,k1⟩:=hr2
      repeat' (first | assumption | wp_step)
      exact q _ _ gg k1
     | _=>exact hr2.elim
  | _=>exact hr.elim
end
theorem zaM:Slot "set_iterator" "__next__" "set_iterator.__next__":= .of (owner:="set_iterator") (n:="__next__") (by rw [typeLookup_type,builtinLookup_eq_fast];kernel_rfl) (by decide +kernel) (by decide +kernel) (by decide +kernel) (by first | exact .inl (by decide +kernel) | exact .inr (by decide +kernel)) (by rw [isSubtype_type];kernel_rfl)
theorem zdv:Slot "set_iterator" "__iter__" "set_iterator.__iter__":= .of (owner:="set_iterator") (n:="__iter__") (by rw [typeLookup_type,builtinLookup_eq_fast];kernel_rfl) (by decide +kernel) (by decide +kernel) (by decide +kernel) (by first | exact .inl (by decide +kernel) | exact .inr (by decide +kernel)) (by rw [isSubtype_type];kernel_rfl)
theorem zcu:entryFor table "set_iterator.__next__"=some Builtin.«set_iterator.__next__» := entryFor_of_tree (by kernel_rfl)
theorem zeX:entryFor table "set_iterator.__iter__"=some Builtin.«dict_keyiterator.__iter__» := entryFor_alias (id':="dict_keyiterator.__iter__") (by kernel_rfl) rfl (by decide +kernel) (by kernel_rfl)
theorem zcH (a:Value):argsOk "set_iterator.__next__" ⟨[a],[]⟩:=by unfold argsOk;kernel_rfl
theorem zfX (a:Value):argsOk "set_iterator.__iter__" ⟨[a],[]⟩:=by unfold argsOk;kernel_rfl
theorem zeY:entryFor table "set.__iter__"=some Builtin.«frozenset.__iter__» := entryFor_alias (id':="frozenset.__iter__") (by kernel_rfl) rfl (by decide +kernel) (by kernel_rfl)
def SIt (h:Heap) (it a:Addr) (first:Value) (i n ep:Nat):Prop:=h.get? it=some {cls:= .type "set_iterator",dict:=none,data:= .fields #[first,.int i 0,.ref a,.int n 0,.int ep 0],slots:= #[]}
structure zid (h:Heap) (a:Addr) (es:Array (Int×Value)) (ep:Nat) (tb:SetTable):Prop where
 at_: ∃ ob,h.get? a=some ob/\ob.ExactSet/\ob.data= .set es ep tb
 fits:tb.fits es.size=true
section
variable {prog:Program} {w:World} {A:Around} {E:Value->Shared->Prop} {s:Shared}
theorem zkc {it a:Addr} {first:Value} {i n ep:Nat} {es:Array (Int×Value)} {tb:SetTable} {Q:Option Value->Shared->Prop} (hI:SIt s.heap it a first i n ep) (hS:zid s.heap a es ep tb) (hn:es.size=n) (slot:Nat) (hf:first= .int slot 0)
  (q:wpAny (model prog w) A.in1 (do
    match<-setNext a slot i ep with
    | some (x,next)=>
      setField (.ref it) 0 (rawInt next)
      setField (.ref it) 1 (rawInt ((i:Int)+1))
      ret x
    | none=>setField (.ref it) 2 .none;raiseNew (<- newExc (.type "StopIteration") [])) (fun f s'=> ∃ v,f= .done (.ret v)/\Q (some v) s') (fun e s'=>wpAny (model prog w) A (do if<-isInstance e (.type "StopIteration") then pure none else throw e) Q E s') s):
  wpAny (model prog w) A (pyNext (.ref it)) Q E s:=by
 obtain ⟨ob,ho,hx,hd⟩:=hS.at_
 subst hf
 have tI:s.TypeIs (.ref it) "set_iterator":=⟨_,hI,rfl⟩
 unfold pyNext
 refine qaW (wpAny_attempt (wpAny_callSpecial?_slot (name:=Str.ofString "__next__") tI zaM (wpAny_call_entry zaM tI zcu ?_ (zcH _))))
 unfold Builtin.«set_iterator.__next__»
 refine qaW (m:=slotArgs "__next__" 0 _) (qaX ?_)
 refine qaW (m:=fieldsOf (.ref it)) ?_
 unfold fieldsOf
 refine qaW (wpAny_load hI (qaX ?_))
 refine qaW (wpAny_setEntries_of ho hd hS.fits ?_)
 have same: ¬(((es.size:Nat):Int) != (n:Int))=true:=by rw [hn];simp
 rw [qa5 same]
 exact qaZ q (fun f s' ⟨v,e,z⟩=>⟨v,e,qaX z⟩) fun e s' z=>z
theorem zkB {it:Addr} {r:Shared->Prop} {Q:Option Value->Shared->Prop} (hh:A.handled=none) (q: ∀ h',(∀ b ob,s.heap.get? b=some ob->h'.get? b=some ob)->Q none {s with heap:=h'}):
  wpAny (model prog w) A.in1 (do raiseNew (<- newExc (.type "StopIteration") []):Sem PySem.Fin) (fun f s'=> ∃ v,f= .done (.ret v)/\Q (some v) s') (fun e s'=>wpAny (model prog w) A (do if<-isInstance e (.type "StopIteration") then pure none else throw e) Q E s') s:=by
 refine qaW ?_
 simp only [newExc,newTuple]
 refine qaW (qaC ?_ (by size_fits))
 refine qaW (m:=firstArgMember _ _) (wpAny_of_eq (a:=Value.none) (by first | rfl | (simp only [firstArgMember];rfl)) ?_)
 refine qaC ?_ (by size_fits)
 simp only [raiseNew]
 refine qaW (wpAny_handled ?_)
 rw [show A.in1.handled=none from hh]
 refine qaW (qaX (wpAny_throw ?_))
 refine qaW (wpAny_isInstance (T:="StopIteration") (b:=true) ⟨_,qar _ rfl,rfl⟩ isSubtype_stop ?_)
 exact qaX (q _ fun b ob e=>qag _ (qag _ e))
theorem zfl {es:Array (Int×Value)} {tb:SetTable} (hf:tb.fits es.size=true):tb.place.size=es.size:=by
 unfold SetTable.fits at hf
 simp only [qaG,beq_iff_eq] at hf
 exact hf.1
theorem zdu {a:Addr} {ep i slot:Nat} {es:Array (Int×Value)} {tb:SetTable} {R:Option (Value×Nat)->Shared->Prop} (hS:zid s.heap a es ep tb) (led:tb.led=true) (bt:w.params.followText "set-order"=false) (pl:(!tb.plain && decide (es.size>1))=false)
  (q:R (match es[SetTable.below tb.place slot]?, tb.place[SetTable.below tb.place slot]? with | some (_,x),some j=>some (x,j+1) | _,_=>none) s):wpAny (model prog w) A (setNext a slot i ep) R E s:=by
 obtain ⟨ob,ho,hx,hd⟩:=hS.at_
 unfold setNext
 refine qaW (wpAny_setState_of ho hd hS.fits ?_)
 dsimp only
 unfold setsByText
 refine qaW (qaW (wpAny_askSetting (qaX ?_)))
 dsimp only
 rw [show (model prog w).w.params.followText "set-order"=false from bt]
 simp only [qax,if_false]
 show wpAny _ _ (if (!tb.plain && decide (es.size>1))=true then _ else _) _ _ _
 rw [qa5 (by rw [pl];exact Bool.false_ne_true)]
 refine qaW ?_
 show wpAny _ _ (if (!tb.led && !es.isEmpty)=true then _ else _) _ _ _
 rw [qa5 (by rw [led];exact Bool.false_ne_true)]
 exact qaX (qaX q)
theorem zd5 {a:Addr} {ep i slot:Nat} {es:Array (Int×Value)} {tb:SetTable} {R:Option (Value×Nat)->Shared->Prop} (hS:zid s.heap a es ep tb) (bt:w.params.followText "set-order"=true)
  (q:R (((pickOrder (w.params.setOrder a ep) es)[i]?).map fun e=>(e.2,slot)) s):wpAny (model prog w) A (setNext a slot i ep) R E s:=by
 obtain ⟨ob,ho,hx,hd⟩:=hS.at_
 unfold setNext
 refine qaW (wpAny_setState_of ho hd hS.fits ?_)
 dsimp only
 unfold setsByText
 refine qaW (qaW (wpAny_askSetting (qaX ?_)))
 dsimp only
 rw [show (model prog w).w.params.followText "set-order"=true from bt]
 simp only [if_true]
 rw [qa5 (by simp)]
 refine qaW ?_
 unfold setWalk
 refine qaW (wpAny_setState_of ho hd hS.fits ?_)
 dsimp only
 unfold setsByText
 refine qaW (qaW (wpAny_askSetting (qaX ?_)))
 dsimp only
 rw [show (model prog w).w.params.followText "set-order"=true from bt]
 simp only [if_true]
 refine qaW (wpAny_askSetting (qaX (qaX q)))
theorem zjO {it a:Addr} {n ep i slot nx:Nat} {x:Value} {es:Array (Int×Value)} {tb:SetTable} {Q:Option Value->Shared->Prop} (hI:SIt s.heap it a (.int slot 0) i n ep) (hS:zid s.heap a es ep tb) (hn:es.size=n)
  (st: ∀ (R:Option (Value×Nat)->Shared->Prop) (E':Value->Shared->Prop),R (some (x,nx)) s->wpAny (model prog w) A.in1 (setNext a slot i ep) R E' s)
  (q: ∀ h',SIt h' it a (.int nx 0) (i+1) n ep->Heap.SameBut it s.heap h'->Q (some x) {s with heap:=h'}):wpAny (model prog w) A (pyNext (.ref it)) Q E s:=by
 refine zkc hI hS hn slot rfl (qaW (st _ _ ?_))
 dsimp only
 refine qaW (wpAny_setField_rec hI (by simp) fun h1 a1 sb1=> ?_)
 refine qaW (wpAny_setField_rec (s:={s with heap:=h1}) a1 (by simp) fun h2 a2 sb2=> ?_)
 refine qaX ⟨x,rfl,q h2 ?_ (sb1.trans sb2)⟩
 unfold SIt
 rw [a2]
 simp [rawInt]
theorem zmI {it a:Addr} {n ep i slot:Nat} {es:Array (Int×Value)} {tb:SetTable} {Q:Option Value->Shared->Prop} (hh:A.handled=none) (hI:SIt s.heap it a (.int slot 0) i n ep) (hS:zid s.heap a es ep tb) (hn:es.size=n)
  (st: ∀ (R:Option (Value×Nat)->Shared->Prop) (E':Value->Shared->Prop),R none s->wpAny (model prog w) A.in1 (setNext a slot i ep) R E' s)
  (q: ∀ h',(∀ b ob,b≠it->s.heap.get? b=some ob->h'.get? b=some ob)->Q none {s with heap:=h'}):wpAny (model prog w) A (pyNext (.ref it)) Q E s:=by
 refine zkc hI hS hn slot rfl (qaW (st _ _ ?_))
 dsimp only
 refine qaW (wpAny_setField_rec hI (by simp) fun h1 a1 sb1=> ?_)
 exact zkB (r:=fun _=>True) (it:=it) (s:={s with heap:=h1}) hh fun h' k=>q h' fun b ob hb e=>k b ob ((sb1.2 b hb).trans e)
end
theorem zcZ {α:Type}: ∀ {l:List α} {i:Nat} {x:α},l[i]? = some x->List.Perm l (x::l.eraseIdx i)
 | [],_,_,e=>by simp at e
 | a::r,0,x,e=>by simp at e;subst e;exact .rfl
 | a::r,i+1,x,e=>by
  have e:r[i]? = some x:=by simpa using e
  exact ((zcZ e).cons a).trans (.swap x a _)
theorem zd2 {α:Type} {l:List α} {i:Nat} {x:α} (e:l[i]? = some x):(l.eraseIdx i).length+1=l.length:=by
 have:=(zcZ e).length_eq
 rw [qaE] at this
 exact this.symm
theorem zgY {α:Type} (nx:Nat->Nat): ∀ (fuel k:Nat) (left:List α) (out:Array α),left.length=fuel->List.Perm (pickOrder.go nx fuel k left out).toList (out.toList++left)
 | 0,k,left,out,h=>by
  have:left=[]:=List.length_eq_zero_iff.mp h
  subst this
  simp [pickOrder.go]
 | fuel+1,k,left,out,h=>by
  unfold pickOrder.go
  have hl:nx k % left.length<left.length:=Nat.mod_lt _ (by omega)
  have e:left[nx k % left.length]? = some left[nx k % left.length]:=by simp [hl]
  rw [e]
  dsimp only
  have hz:=zd2 e
  refine (zgY nx fuel (k+1) _ _ (by omega)).trans ?_
  rw [Array.toList_push,List.append_assoc]
  exact List.Perm.append_left _ (zcZ e).symm
theorem zct {α:Type} (nx:Nat->Nat) (xs:Array α):List.Perm (pickOrder nx xs).toList xs.toList:=by
 have:=zgY nx xs.size 0 xs.toList #[] (by simp)
 simpa [pickOrder] using this
section
variable {prog:Program} {w:World} {A:Around} {E:Value->Shared->Prop} {s:Shared}
theorem zi5 {src:Source} {n:Nat} {Q:Nat->Shared->Prop} (hn:n≠0) (q: ∀ k d,k<n->Q k {s with drawn:=d}):wpAny (model prog w) A (choose src n) Q E s:=fun Γ p hΓ=>⟨hn,q _ _ (Nat.mod_lt _ (Nat.pos_of_ne_zero hn))⟩
theorem zd3 {α:Type}: ∀ (fuel:Nat) (xs:List α) (s:Shared) (Q:List α->Shared->Prop),xs.length<=fuel->(∀ ys d,List.Perm ys xs->Q ys {s with drawn:=d})->wpAny (model prog w) A (drawOrder fuel xs) Q E s
 | 0,xs,s,Q,h,q=>by
  have:xs=[]:=List.length_eq_zero_iff.mp (by omega)
  subst this
  unfold drawOrder
  exact qaX (q [] s.drawn .rfl)
 | fuel+1,[],s,Q,h,q=>by
  unfold drawOrder
  exact qaX (q [] s.drawn .rfl)
 | fuel+1,x::r,s,Q,h,q=>by
  unfold drawOrder
  refine qaW (zi5 (by simp) fun k d hk=> ?_)
  have e:(x::r)[k]? = some (x::r)[k]:=by simp [hk]
  rw [e]
  dsimp only
  have hz:=zd2 e
  refine qaW (zd3 fuel ((x::r).eraseIdx k) {s with drawn:=d} _ (by omega) fun ys d' p=>qaX ?_)
  exact q _ d' ((p.cons _).trans (zcZ e).symm)
theorem ziN {it a tp:Addr} {n ep i p:Nat} {x:Value} {es:Array (Int×Value)} {tb:SetTable} {ps:Array Value} {Q:Option Value->Shared->Prop} (hI:SIt s.heap it a (.ref tp) i n ep) (hS:zid s.heap a es ep tb) (hn:es.size=n)
  (hT:s.heap.get? tp=some {cls:= .type "tuple",data:= .seq ps}) (hp:ps[i]? = some (.int (p:Nat) 0)) (he:(es[p]?).map (·.2)=some x)
  (q: ∀ h',SIt h' it a (.ref tp) (i+1) n ep->Heap.SameBut it s.heap h'->Q (some x) {s with heap:=h'}):wpAny (model prog w) A (pyNext (.ref it)) Q E s:=by
 obtain ⟨ob,ho,hx,hd⟩:=hS.at_
 have tI:s.TypeIs (.ref it) "set_iterator":=⟨_,hI,rfl⟩
 unfold pyNext
 refine qaW (wpAny_attempt (wpAny_callSpecial?_slot (name:=Str.ofString "__next__") tI zaM (wpAny_call_entry zaM tI zcu ?_ (zcH _))))
 unfold Builtin.«set_iterator.__next__»
 refine qaW (m:=slotArgs "__next__" 0 _) (qaX ?_)
 refine qaW (m:=fieldsOf (.ref it)) ?_
 unfold fieldsOf
 refine qaW (wpAny_load hI (qaX ?_))
 refine qaW (wpAny_setEntries_of ho hd hS.fits ?_)
 have same: ¬(((es.size:Nat):Int) != (n:Int))=true:=by rw [hn];simp
 rw [qa5 same]
 refine qaW (m:=seqItems? (.ref tp)) ?_
 unfold seqItems?
 refine qaW (wpAny_load hT (qaX ?_))
 dsimp only
 rw [show ((i:Nat):Int).toNat=i from qaB i,hp]
 dsimp only
 refine qaW (m:=setNextDrawn a _ _) ?_
 unfold setNextDrawn
 refine qaW (wpAny_setState_of ho hd hS.fits ?_)
 dsimp only
 rw [show ((ep:Nat):Int).toNat=ep from qaB ep,show ((p:Nat):Int).toNat=p from qaB p,qa5 (by simp)]
 cases ee:es[p]? with
 | none=>rw [ee] at he;cases he
 | some e=>
  rw [ee] at he
  cases he
  dsimp only
  refine qaX ?_
  refine qaW (wpAny_setField_rec hI (by simp) fun h2 a2 sb2=> ?_)
  refine qaX ⟨_,rfl,qaX (q h2 ?_ sb2)⟩
  unfold SIt
  rw [a2]
  simp [rawInt]
theorem zju {it a tp:Addr} {n ep i:Nat} {es:Array (Int×Value)} {tb:SetTable} {ps:Array Value} {Q:Option Value->Shared->Prop} (hh:A.handled=none) (hI:SIt s.heap it a (.ref tp) i n ep) (hS:zid s.heap a es ep tb) (hn:es.size=n)
  (hT:s.heap.get? tp=some {cls:= .type "tuple",data:= .seq ps}) (hp:ps[i]? = none)
  (q: ∀ h',(∀ b ob,b≠it->s.heap.get? b=some ob->h'.get? b=some ob)->Q none {s with heap:=h'}):wpAny (model prog w) A (pyNext (.ref it)) Q E s:=by
 obtain ⟨ob,ho,hx,hd⟩:=hS.at_
 have tI:s.TypeIs (.ref it) "set_iterator":=⟨_,hI,rfl⟩
 unfold pyNext
 refine qaW (wpAny_attempt (wpAny_callSpecial?_slot (name:=Str.ofString "__next__") tI zaM (wpAny_call_entry zaM tI zcu ?_ (zcH _))))
 unfold Builtin.«set_iterator.__next__»
 refine qaW (m:=slotArgs "__next__" 0 _) (qaX ?_)
 refine qaW (m:=fieldsOf (.ref it)) ?_
 unfold fieldsOf
 refine qaW (wpAny_load hI (qaX ?_))
 refine qaW (wpAny_setEntries_of ho hd hS.fits ?_)
 have same: ¬(((es.size:Nat):Int) != (n:Int))=true:=by rw [hn];simp
 rw [qa5 same]
 refine qaW (m:=seqItems? (.ref tp)) ?_
 unfold seqItems?
 refine qaW (wpAny_load hT (qaX ?_))
 dsimp only
 rw [show ((i:Nat):Int).toNat=i from qaB i,hp]
 dsimp only
 refine qaW (wpAny_setField_rec hI (by simp) fun h1 a1 sb1=> ?_)
 refine qaW (wpAny_setField_rec (s:={s with heap:=h1}) a1 (by simp) fun h2 a2 sb2=> ?_)
 refine qaZ (zkB (Q:=Q) (E:=E) (r:=fun _=>True) (it:=it) (s:={s with heap:=h2}) hh fun h' k=>q h' fun b ob hb e=>k b ob ((sb2.2 b hb).trans ((sb1.2 b hb).trans e))) (fun f s' ⟨v,e,z⟩=>⟨v,e,qaX z⟩) fun e s' z=>z
theorem zex {it a:Addr} {first:Value} {i n ep:Nat} {Q:Value->Shared->Prop} (hI:SIt s.heap it a first i n ep) (q:Q (.ref it) s):wpAny (model prog w) A (pyIter (.ref it)) Q E s:=by
 have tI:s.TypeIs (.ref it) "set_iterator":=⟨_,hI,rfl⟩
 refine wpAny_pyIter_slot tI zdv (wpAny_call_entry zdv tI zeX ?_ (zfX _))
 show wpAny _ _ (ret (.ref it)) _ _ _
 exact qaX ⟨_,rfl,"set_iterator",_,tI,zaM.lookup,q⟩
theorem zid.keep {h h':Heap} {a:Addr} {es:Array (Int×Value)} {ep:Nat} {tb:SetTable} (x:zid h a es ep tb) (k: ∀ ob,h.get? a=some ob->h'.get? a=some ob):zid h' a es ep tb:=
 ⟨let ⟨ob,h1,h2⟩:=x.at_;⟨ob,k ob h1,h2⟩,x.fits⟩
noncomputable def zgN (tb:SetTable):Nat->Nat
 | 0=>0
 | i+1=>tb.place.getD i 0+1
theorem zix (hh:A.handled=none) {it a:Addr} {ep:Nat} {es:Array (Int×Value)} {tb:SetTable} (hne:a≠it) (up:Up tb.place) (led:tb.led=true) (bt:w.params.followText "set-order"=false) (pl:(!tb.plain && decide (es.size>1))=false) (hf:tb.fits es.size=true):
  Walks prog w A it [it,a] [it] es.size (fun i v=> ∃ e,es.toList[i]? = some e/\v=e.2) (fun i h=>SIt h it a (.int (zgN tb i:Nat) 0) i es.size ep/\zid h a es ep tb) where
 sub:=fun b hb=>by simp at hb;simp [hb]
 frame:=fun i h h' st k=>⟨k it (by simp) _ st.1,st.2.keep fun ob e=>k a (by simp) ob e⟩
 item:=fun i s Q E hi st q=>by
  have pz:=zfl hf
  have hi2:i<tb.place.size:=by omega
  have bl:SetTable.below tb.place (zgN tb i)=i:=by
   cases i with
   | zero=>exact zfp up
   | succ i=>
    have hi3:i<tb.place.size:=by omega
    have e:tb.place[i]? = some (tb.place.getD i 0):=by simp [hi3,Array.getD]
    exact zfm up e
  have ep':tb.place.getD i 0=tb.place[i]:=by simp [hi2,Array.getD]
  refine zjO (nx:=zgN tb (i+1)) (x:=es[i].2) st.1 st.2 rfl (fun R E' r=>zdu st.2 led bt pl ?_) fun h' a1 sb=> ?_
  ·rw [bl]
   have e1:es[i]? = some es[i]:=by simp [hi]
   have e2:tb.place[i]? = some tb.place[i]:=by simp [hi2]
   rw [e1,e2]
   show R (some (es[i].2,tb.place[i]+1)) s
   have e3:zgN tb (i+1)=tb.place[i]+1:=by show tb.place.getD i 0+1=_;rw [ep']
   rw [<- e3]
   exact r
  ·exact q _ h' s.toks ⟨es[i],by simp [hi],rfl⟩ ⟨a1,st.2.keep fun ob e=>(sb.2 a hne).trans e⟩ fun b ob hb e=>(sb.2 b fun z=>hb (by simp [z])).trans e
 done:=fun s Q E st q=>by
  have pz:=zfl hf
  have bl:SetTable.below tb.place (zgN tb es.size)=es.size:=by
   cases hz:es.size with
   | zero=>exact zfp up
   | succ i=>
    have hi3:i<tb.place.size:=by omega
    have e:tb.place[i]? = some (tb.place.getD i 0):=by simp [hi3,Array.getD]
    exact zfm up e
  refine zmI hh st.1 st.2 rfl (fun R E' r=>zdu st.2 led bt pl ?_) fun h' k=>q h' s.toks fun b ob hb e=>k b ob (fun z=>hb (by simp [z])) e
  rw [bl]
  have e1:es[es.size]? = none:=by simp
  rw [e1]
  exact r
 self:=fun i s Q E st q=>zex st.1 q
theorem zj9 (hh:A.handled=none) {it a:Addr} {ep:Nat} {es:Array (Int×Value)} {tb:SetTable} (hne:a≠it) (bt:w.params.followText "set-order"=true) (hf:tb.fits es.size=true):
  Walks prog w A it [it,a] [it] es.size (fun i v=> ∃ e,(pickOrder (w.params.setOrder a ep) es).toList[i]? = some e/\v=e.2) (fun i h=>SIt h it a (.int (0:Nat) 0) i es.size ep/\zid h a es ep tb) where
 sub:=fun b hb=>by simp at hb;simp [hb]
 frame:=fun i h h' st k=>⟨k it (by simp) _ st.1,st.2.keep fun ob e=>k a (by simp) ob e⟩
 item:=fun i s Q E hi st q=>by
  have pz:(pickOrder (w.params.setOrder a ep) es).size=es.size:=by
   have:=(zct (w.params.setOrder a ep) es).length_eq
   simpa using this
  have hi2:i<(pickOrder (w.params.setOrder a ep) es).size:=by omega
  refine zjO (nx:=0) (x:=(pickOrder (w.params.setOrder a ep) es)[i].2) st.1 st.2 rfl (fun R E' r=>zd5 st.2 bt ?_) fun h' a1 sb=> ?_
  ·have e1:(pickOrder (w.params.setOrder a ep) es)[i]? = some (pickOrder (w.params.setOrder a ep) es)[i]:=by simp [hi2]
   rw [e1]
   exact r
  ·exact q _ h' s.toks ⟨(pickOrder (w.params.setOrder a ep) es)[i],by simp [hi2],rfl⟩ ⟨a1,st.2.keep fun ob e=>(sb.2 a hne).trans e⟩ fun b ob hb e=>(sb.2 b fun z=>hb (by simp [z])).trans e
 done:=fun s Q E st q=>by
  have pz:(pickOrder (w.params.setOrder a ep) es).size=es.size:=by
   have:=(zct (w.params.setOrder a ep) es).length_eq
   simpa using this
  refine zmI hh st.1 st.2 rfl (fun R E' r=>zd5 st.2 bt ?_) fun h' k=>q h' s.toks fun b ob hb e=>k b ob (fun z=>hb (by simp [z])) e
  have e1:(pickOrder (w.params.setOrder a ep) es)[es.size]? = none:=by simp [pz]
  rw [e1]
  exact r
 self:=fun i s Q E st q=>zex st.1 q
theorem ziy (hh:A.handled=none) {it a tp:Addr} {ep:Nat} {es:Array (Int×Value)} {tb:SetTable} {ys:List Nat} (hne:a≠it) (hne2:tp≠it) (hp:List.Perm ys (List.range es.size)):
  Walks prog w A it [it,a,tp] [it] es.size (fun i v=> ∃ e,(ys.filterMap (es[·]?))[i]? = some e/\v=e.2) (fun i h=>SIt h it a (.ref tp) i es.size ep/\zid h a es ep tb/\h.get? tp=some {cls:= .type "tuple",data:= .seq (ys.map fun (i:Nat)=>rawInt i).toArray}) where
 sub:=fun b hb=>by simp at hb;simp [hb]
 frame:=fun i h h' st k=>⟨k it (by simp) _ st.1,st.2.1.keep fun ob e=>k a (by simp) ob e,k tp (by simp) _ st.2.2⟩
 item:=fun i s Q E hi st q=>by
  have hl:ys.length=es.size:=by simpa using hp.length_eq
  have hi2:i<ys.length:=by omega
  have lt: ∀ y∈ys,y<es.size:=fun y hy=>by simpa using hp.mem_iff.mp hy
  have lti:=lt _ (List.getElem_mem hi2)
  have fm: ∀ (zs:List Nat),(∀ y∈zs,y<es.size)-> ∀ (j:Nat) (y:Nat),zs[j]? = some y->(zs.filterMap (es[·]?))[j]? = es[y]? := by
   intro zs
   induction zs with
   | nil=>intro _ j y e;simp at e
   | cons z r ih=>
    intro hz j y e
    have lz:=hz z (.head _)
    rw [List.filterMap_cons_some (b:=es[z]) (by simp [lz])]
    cases j with
    | zero=>simp at e;subst e;simp [lz]
    | succ j=>simpa using ih (fun y hy=>hz y (.tail _ hy)) j y (by simpa using e)
  refine ziN (p:=ys[i]) (x:=es[ys[i]].2) st.1 st.2.1 rfl st.2.2 (by simp [hi2,rawInt]) (by simp [lti]) fun h' a1 sb=> ?_
  refine q _ h' s.toks ⟨es[ys[i]],?_,rfl⟩ ⟨a1,st.2.1.keep fun ob e=>(sb.2 a hne).trans e,(sb.2 tp hne2).trans st.2.2⟩ fun b ob hb e=>(sb.2 b fun z=>hb (by simp [z])).trans e
  rw [fm ys lt i ys[i] (by simp [hi2])]
  simp [lti]
 done:=fun s Q E st q=>by
  have hl:ys.length=es.size:=by simpa using hp.length_eq
  exact zju hh st.1 st.2.1 rfl st.2.2 (by simp [hl]) fun h' k=>q h' s.toks fun b ob hb e=>k b ob (fun z=>hb (by simp [z])) e
 self:=fun i s Q E st q=>zex st.1 q
end
section
variable {prog:Program} {w:World} {A:Around} {E:Value->Shared->Prop} {s:Shared}
structure zpx (prog:Program) (w:World) (a it:Addr) (es:Array (Int×Value)) (ord:List (Int×Value)) (fp:List Addr) (St:Nat->Heap->Prop):Prop where
 walks: ∀ A:Around,A.handled=none->Walks prog w A it fp [it] es.size (fun i v=> ∃ e,ord[i]? = some e/\v=e.2) St
 perm:List.Perm ord es.toList
 mem:it∈fp
theorem ztD {a:Addr} {S:Int->Bool} {n:Nat} {Q:Value->Shared->Prop} (g:zf7 prog w s.heap a S n)
  (q: ∀ it es ep tb ord fp St h' d,(∃ ob,s.heap.get? a=some ob/\ob.ExactSet/\ob.data= .set es ep tb)->zpx prog w a it es ord fp St->St 0 h'->s.heap.objs.size<=it->(∀ b ob,s.heap.get? b=some ob->h'.get? b=some ob)->(∀ b∈fp,b=a\/s.heap.objs.size<=b)->es.size<scanBound->
    Q (.ref it) {s with heap:=h',drawn:=d}):wpAny (model prog w) A (pyIter (.ref a)) Q E s:=by
 obtain ⟨ob,es,ep,tb,⟨h1,h2,h3⟩,h4,h5,⟨h6,h7,h8⟩,h9⟩:=g
 have tS:s.TypeIs (.ref a) "set":=⟨ob,h1,h2.1⟩
 have lta:a<s.heap.objs.size:=qaQ h1
 refine wpAny_pyIter_slot tS F.slot_set_iter (wpAny_call_entry F.slot_set_iter tS zeY ?_ (F.args_set_iter_1 _))
 unfold Builtin.«frozenset.__iter__»
 refine qaW (m:=Builtin.Frozenset.slot0 "__iter__" _) (qaX ?_)
 refine qaW (m:=Builtin.Frozenset.sizeOf a) ?_
 unfold Builtin.Frozenset.sizeOf
 refine qaW (wpAny_setEntries_of h1 h3 h7 (qaX ?_))
 refine qaW (m:=setDrawn a) ?_
 unfold setDrawn
 refine qaW (wpAny_setState_of h1 h3 h7 ?_)
 dsimp only
 unfold setsByText
 refine qaW (qaW (wpAny_askSetting (qaX (qaX ?_))))
 dsimp only
 have sobj: ∀ {h':Heap},(∀ b ob,s.heap.get? b=some ob->h'.get? b=some ob)->zid h' a es ep tb:=fun k=>⟨⟨ob,k _ _ h1,h2,h3⟩,h7⟩
 by_cases dr:(!(model prog w).w.params.followText "set-order" && (!tb.plain && decide (es.size>1)))=true
 ·show wpAny _ _ (if (!(model prog w).w.params.followText "set-order" && (!tb.plain && decide (es.size>1)))=true then _ else _) _ _ _
  rw [qa4 dr]
  refine qaW (zd3 es.size (List.range es.size) s _ (by simp) fun ys d hp=> ?_)
  have hl:ys.length=es.size:=by simpa using hp.length_eq
  have small:es.size<=sizeLine:=fits_of_scanBound h6
  refine qaW ?_
  unfold newTuple
  refine qaC ?_ (by show (ys.map fun (i:Nat)=>rawInt i).toArray.size<=sizeLine;simp [hl];exact small)
  unfold setEpoch
  refine qaW (qaW (wpAny_setState_of (s:={s with heap:=_,drawn:=d}) (qag _ h1) h3 h7 (qaX ?_)))
  dsimp only
  refine qaW (qaC (qaX ⟨_,rfl,"set_iterator",_,⟨_,qar _ rfl,rfl⟩,zaM.lookup,?_⟩))
  have z1:(s.heap.push {cls:= .type "tuple",dict:=none,data:= .seq (ys.map fun (i:Nat)=>rawInt i).toArray}).objs.size=s.heap.objs.size+1:=qaL ..
  have kp: ∀ (o2:Obj) b ob,s.heap.get? b=some ob->((s.heap.push {cls:= .type "tuple",dict:=none,data:= .seq (ys.map fun (i:Nat)=>rawInt i).toArray}).push o2).get? b=some ob:=fun o2 b ob e=>qag _ (qag _ e)
  refine q _ es ep tb (ys.filterMap (es[·]?)) [(s.heap.push {cls:= .type "tuple",dict:=none,data:= .seq (ys.map fun (i:Nat)=>rawInt i).toArray}).objs.size,a,s.heap.objs.size] _ _ d ⟨ob,h1,h2,h3⟩ ⟨fun A' hA=>ziy (tb:=tb) (ep:=ep) hA ?_ ?_ hp,?_,.head _⟩ ⟨?_,sobj (kp _),?_⟩ ?_ (kp _) (fun b hb=> ?_) h6
  ·rw [z1];exact qaR (Nat.lt_succ_of_lt lta)
  ·rw [z1];exact qaR (Nat.lt_succ_self _)
  ·refine (hp.filterMap _).trans ?_
   rw [filterMap_getElem?_range]
  ·exact qar _ rfl
  ·exact qag _ (qar _ rfl)
  ·rw [z1];exact Nat.le_succ _
  ·simp only [qaP,qaF,or_false] at hb
   rcases hb with z | z | z
   ·right;rw [z,z1];exact Nat.le_succ _
   ·exact .inl z
   ·right;rw [z];exact qaV _
 ·show wpAny _ _ (if (!(model prog w).w.params.followText "set-order" && (!tb.plain && decide (es.size>1)))=true then _ else _) _ _ _
  rw [qa5 dr]
  refine qaW (qaX ?_)
  unfold setEpoch
  refine qaW (qaW (wpAny_setState_of h1 h3 h7 (qaX ?_)))
  dsimp only
  refine qaW (qaC (qaX ⟨_,rfl,"set_iterator",_,⟨_,qar _ rfl,rfl⟩,zaM.lookup,?_⟩))
  have kp: ∀ (o2:Obj) b ob,s.heap.get? b=some ob->(s.heap.push o2).get? b=some ob:=fun o2 b ob e=>qag _ e
  have fpl: ∀ b∈[s.heap.objs.size,a],b=a\/s.heap.objs.size<=b:=fun b hb=>by
   simp only [qaP,qaF,or_false] at hb
   rcases hb with z | z
   ·right;rw [z];exact qaV _
   ·exact .inl z
  cases bt:w.params.followText "set-order" with
  | true=>
   exact q _ es ep tb _ [s.heap.objs.size,a] _ _ s.drawn ⟨ob,h1,h2,h3⟩ ⟨fun A' hA=>zj9 (tb:=tb) (ep:=ep) hA (qaR lta) bt h7,zct _ _,.head _⟩ ⟨qar _ rfl,sobj (kp _)⟩ (qaV _) (kp _) fpl h6
  | false=>
   have pl:(!tb.plain && decide (es.size>1))=false:=by
    rw [show (model prog w).w.params.followText "set-order"=false from bt] at dr
    simpa using dr
   have led:tb.led=true:=by
    rw [h9.led]
    unfold zcD
    rw [bt]
    rfl
   exact q _ es ep tb _ [s.heap.objs.size,a] _ _ s.drawn ⟨ob,h1,h2,h3⟩ ⟨fun A' hA=>zix (tb:=tb) (ep:=ep) hA (qaR lta) h9.up led bt pl h7,.rfl,.head _⟩ ⟨qar _ rfl,sobj (kp _)⟩ (qaV _) (kp _) fpl h6
theorem zlE {a:Addr} {S:Int->Bool} {n:Nat} {Q:List Value->Shared->Prop} (hh:A.handled=none) (g:zf7 prog w s.heap a S n)
  (q: ∀ vs s' es ep tb,(∃ ob,s.heap.get? a=some ob/\ob.ExactSet/\ob.data= .set es ep tb)->List.Perm vs (es.toList.map (·.2))->(∀ b ob,s.heap.get? b=some ob->s'.heap.get? b=some ob)->s'.gens=s.gens->s'.os=s.os->Q vs s'):wpAny (model prog w) A (collect (.ref a)) Q E s:=by
 have tS: ∀ {h':Heap} {s':Shared},s'.heap=h'->(∀ b ob,s.heap.get? b=some ob->h'.get? b=some ob)->s'.TypeIs (.ref a) "set":=fun {h' s'} e k=>by
  obtain ⟨ob,es,ep,tb,⟨h1,h2,h3⟩,_⟩:=g
  exact ⟨ob,by rw [e];exact k _ _ h1,h2.1⟩
 have lta:a<s.heap.objs.size:=by
  obtain ⟨ob,es,ep,tb,⟨h1,h2,h3⟩,_⟩:=g
  exact qaQ h1
 unfold collect
 refine qaW (wpAny_runValue (codeAny_builtin F.entry_proto_collect ?_))
 rw [qap F.plain_proto_collect _]
 show wpAny _ _ (newList []>>=fun l=>again (.builtin "list.__iadd__" ⟨[l,.ref a],[]⟩)) _ _ _
 refine qaW (qaC (qaX ⟨plainId_quiet F.plain_list_iadd _,codeAny_builtin F.entry_list_iadd ?_⟩))
 rw [qap F.plain_list_iadd _]
 show wpAny _ _ (Builtin.List.listExtendWith (.ref s.heap.objs.size) (.ref a) (.ref s.heap.objs.size)) _ _ _
 unfold Builtin.List.listExtendWith
 have k1: ∀ b ob,s.heap.get? b=some ob->(s.heap.push {cls:= .type "list",data:= .seq ([]:List Value).toArray}).get? b=some ob:=fun b ob e=>qag _ e
 refine qaW (wpAny_typeOf (tS rfl k1) ?_)
 have nsame:Builtin.List.listSameRef (.ref s.heap.objs.size) (.ref a)=false:=by
  simp only [Builtin.List.listSameRef,beq_eq_false_iff_ne]
  exact fun z=>qaN _ (z▸lta)
 have nl:(Value.type "set"==Value.type "list")=false:=by decide
 have nt:(Value.type "set"==Value.type "tuple")=false:=by decide
 simp only [nsame,nl,nt,Bool.or_false,qax,if_false]
 refine qaW (ztD (g.move (fun ob e=>k1 _ _ e) (fun _=>rfl) rfl) fun it es ep tb ord fp St h2 d hob W st0 lit k2 fpl few=> ?_)
 refine qaW (qaO ?_)
 unfold Builtin.List.listLengthHint
 have k12: ∀ b ob,s.heap.get? b=some ob->h2.get? b=some ob:=fun b ob e=>k2 b ob (k1 b ob e)
 refine qaW (wpAny_specialOf (tS rfl k12) F.slot_set_len.lookup ?_)
 have sp:splitId "set.__len__"=some ("set","__len__"):=by decide +kernel
 dsimp only
 rw [sp]
 dsimp only
 refine qaW (wpAny_isInstance (tS rfl k12) sub_set_self ?_)
 rw [qa5 (by decide)]
 rw [qa4 (by decide +kernel)]
 refine qaW (wpAny_typeOf (tS rfl k12) (qaX ?_))
 rw [qa4 (by decide +kernel)]
 refine qaW (wpAny_rule ?_)
 have l2:h2.get? s.heap.objs.size=some {cls:= .type "list",data:= .seq ([]:List Value).toArray}:=k2 _ _ (qar _ rfl)
 refine qaW ?_
 unfold Builtin.List.listTouch
 show wpAny _ _ (updateSeq s.heap.objs.size (·.push .none)>>=fun _=>updateSeq s.heap.objs.size (·.pop)) _ _ _
 refine qaW (wpAny_updateSeq l2 rfl ?_)
 have l3:=qal (Obj.mapSeq (·.push Value.none)) l2 rfl
 refine wpAny_updateSeq l3 rfl ?_
 have l4:=qal (Obj.mapSeq (·.pop)) l3 rfl
 have oth: ∀ b ob,b≠s.heap.objs.size->h2.get? b=some ob->((h2.update s.heap.objs.size (Obj.mapSeq (·.push Value.none))).update s.heap.objs.size (Obj.mapSeq (·.pop))).get? b=some ob:=fun b ob hb e=>
  (qah _ _ (Ne.symm hb)).trans ((qah _ _ (Ne.symm hb)).trans e)
 have nfp:s.heap.objs.size∉fp:=fun z=>by
  rcases fpl _ z with z | z
  ·exact qaN _ (z▸lta)
  ·rw [show ({s with heap:=s.heap.push {cls:= .type "list",data:= .seq ([]:List Value).toArray}}:Shared).heap.objs.size=s.heap.objs.size+1 from qaL ..] at z
   exact qaN _ z
 have fin: ∀ (s':Shared) (vs:Array Value) (c:Nat),(∀ b ob,s.heap.get? b=some ob->s'.heap.get? b=some ob)->s'.gens=s.gens->s'.os=s.os->s'.heap.get? s.heap.objs.size=some {cls:= .type "list",dict:=none,data:= .seq vs c,slots:= #[]}->ItemsOf (fun i v=> ∃ e,ord[i]? = some e/\v=e.2) vs es.size->
   wpAny (model prog w) A (load s.heap.objs.size>>=fun o=>match o.data with | .seq xs _=>pure xs.toList | _=>unsupported "internal:collect") Q E s':=fun s' vs c k g1 g2 e it1=>by
  refine qaW (wpAny_load e (qaX (q vs.toList s' es ep tb ?_ ?_ k g1 g2)))
  ·obtain ⟨ob,o1,o2⟩:=hob
   obtain ⟨ob',es',ep',tb',⟨p1,p2,p3⟩,_⟩:=g
   have:=k1 _ _ p1
   rw [o1] at this
   cases this
   exact ⟨ob,p1,o2⟩
  ·have hl:ord.length=es.size:=by simpa using W.perm.length_eq
   have e2:vs.toList=ord.map (·.2):=by
    apply List.ext_getElem?
    intro i
    by_cases hi:i<es.size
    ·have hv0:i<vs.size:=by rw [it1.1];exact hi
     have hv:vs[i]? = some vs[i]:=by simp [hv0]
     obtain ⟨e,e1,e2⟩:=it1.2 i _ hv
     rw [List.getElem?_map,e1,Array.getElem?_toList,hv,e2]
     rfl
    ·rw [List.getElem?_eq_none (by simp [it1.1];omega),List.getElem?_eq_none (by simp [hl];omega)]
   rw [e2]
   exact W.perm.map _
 have Wk:=(W.walks A.in1 hh).toS
 refine qaX ⟨plainId_quiet F.plain_extend_loop _,codeAny_extend_loopS Wk ?_ _ nfp _ es.size 0 _ _ _ rfl (Nat.zero_le _) ?_ l4 (ItemsOf.nil _) fun s' vs c mv e it1=> ?_⟩
 ·exact fits_of_scanBound few
 ·exact (W.walks A.in1 hh).frame 0 h2 _ st0 fun b hb ob e=>oth b ob (fun z=>nfp (z▸hb)) e
 ·refine fin s' vs c (fun b ob e'=>mv.heap b ob ?_ (oth b ob ?_ (k12 b ob e'))) mv.gens mv.os e it1
  ·intro z
   rcases qaP.mp z with z | z
   ·exact qaN _ (z▸qaQ e')
   ·simp only [qaP,qaF,or_false] at z
    have:=qaQ e'
    rw [z] at this
    exact qaN _ (qaw this (qaS (by rw [qaL];exact Nat.le_succ _) lit))
  ·exact fun z=>qaN _ (z▸qaQ e')
end
noncomputable def znf (x:Int):List Int->List Int
 | []=>[x]
 | y::r=>if x<=y then x::y::r else y::znf x r
noncomputable def zb7:List Int->List Int
 | []=>[]
 | x::r=>znf x (zb7 r)
theorem zeN (x:Int): ∀ l:List Int,List.Perm (znf x l) (x::l)
 | []=> .rfl
 | y::r=>by
  unfold znf
  split
  ·exact .rfl
  ·exact ((zeN x r).cons y).trans (.swap x y r)
theorem zlW {x z:Int} {l:List Int}:z∈znf x l↔z=x\/z∈l:=by rw [(zeN x l).mem_iff,qaP]
theorem zkD (x:Int): ∀ l:List Int,l.Pairwise (· <= ·)->(znf x l).Pairwise (· <= ·)
 | [],_=>by unfold znf;simp
 | y::r,h=>by
  obtain ⟨h1,h2⟩:=qay.mp h
  unfold znf
  split
  ·rename_i hxy
   refine qay.mpr ⟨fun z hz=> ?_,h⟩
   rcases qaP.mp hz with e | hz
   ·rw [e];exact hxy
   ·exact Int.le_trans hxy (h1 z hz)
  ·rename_i hxy
   refine qay.mpr ⟨fun z hz=> ?_,zkD x r h2⟩
   rcases zlW.mp hz with e | hz
   ·rw [e];omega
   ·exact h1 z hz
theorem zaD: ∀ l:List Int,List.Perm (zb7 l) l
 | []=> .rfl
 | x::r=>(zeN x _).trans ((zaD r).cons x)
theorem zcX: ∀ l:List Int,(zb7 l).Pairwise (· <= ·)
 | []=> .nil
 | x::r=>zkD x _ (zcX r)
theorem zej {a b:List Int} (hp:a.Perm b) (h:a.Pairwise (· <= ·)):a=zb7 b:=W.ksm_same (hp.trans (zaD b).symm) h (zcX b)
noncomputable def zeV (ns:List Int):List Int:=zb7 (ns.foldl step_dedup [])
theorem zjQ (ns:List Int): ∀ (acc:List Int) (k:Int),(ns.foldl step_dedup acc).any (· == k)=(acc.any (· == k) || ns.any (· == k)):=by
 induction ns with
 | nil=>intro acc k;simp
 | cons x r ih=>
  intro acc k
  rw [List.foldl_cons,ih,step_any]
  simp only [List.any_cons]
  have:(x==k)=decide (k=x):=by
   by_cases h:k=x
   ·subst h;simp
   ·have h': ¬x=k:=fun e=>h e.symm
    simp [h,h']
  rw [this,Bool.or_assoc]
theorem zkr {ns:List Int} {k:Int}:k∈ns.foldl step_dedup []↔k∈ns:=by
 have:=zjQ ns [] k
 simp only [List.any_nil,Bool.false_or] at this
 have e: ∀ l:List Int,k∈l↔(l.any fun x=>x==k)=true:=fun l=>by
  rw [List.any_eq_true]
  constructor
  ·exact fun h=>⟨k,h,by simp⟩
  ·rintro ⟨x,h,c⟩
   have c:x=k:=by simpa using c
   rw [<- c]
   exact h
 rw [e,e,this]
theorem zeu (ns:List Int): ∀ acc:List Int,acc.Nodup->(ns.foldl step_dedup acc).Nodup:=by
 induction ns with
 | nil=>intro acc h;exact h
 | cons x r ih=>
  intro acc h
  refine ih _ ?_
  unfold step_dedup
  split
  ·exact h
  ·rename_i hx
   rw [List.nodup_append]
   refine ⟨h,by simp,fun a ha b hb=> ?_⟩
   simp only [List.mem_singleton] at hb
   subst hb
   intro e
   subst e
   exact hx (List.any_eq_true.mpr ⟨a,ha,by simp⟩)
theorem zc0 {ns:List Int} {k:Int}:k∈zeV ns↔k∈ns:=by unfold zeV;rw [(zaD _).mem_iff,zkr]
theorem zeM (ns:List Int):(zeV ns).Pairwise (· < ·):=by
 have h1:=zcX (ns.foldl step_dedup [])
 have h2:(zeV ns).Nodup:=(zaD _).nodup_iff.mpr (zeu ns [] List.nodup_nil)
 exact (List.Pairwise.and h1 h2).imp fun ⟨a,b⟩=>by omega
theorem zez (ns:List Int):firstMet (fun i=>ns.getD i 0) ns.length=ns.foldl step_dedup []:=by
 unfold firstMet
 congr 1
 apply List.ext_getElem?
 intro i
 by_cases hi:i<ns.length
 ·simp [hi,List.getD]
 ·rw [List.getElem?_eq_none (by simp;omega),List.getElem?_eq_none (by omega)]
theorem zeJ: ∀ {fm ms:List Int},fm.Nodup->(∀ k,k∈fm->k∈ms)->ms.length<=fm.length->List.Perm ms fm
 | [],ms,_,_,h=>by
  have:ms=[]:=List.length_eq_zero_iff.mp (by simpa using h)
  subst this
  exact .rfl
 | x::r,ms,nd,hm,h=>by
  obtain ⟨n1,n2⟩:=List.nodup_cons.mp nd
  have hx:=hm x (.head _)
  have p:=List.perm_cons_erase hx
  have hl:=p.length_eq
  rw [qaE] at hl h
  refine p.trans ((zeJ n2 (fun k hk=> ?_) (by omega)).cons x)
  have hne:k≠x:=fun e=>n1 (e▸hk)
  rcases qaP.mp (p.mem_iff.mp (hm k (.tail _ hk))) with e | e
  ·exact absurd e hne
  ·exact e
section
variable {prog:Program} {w:World} {A:Around} {E:Value->Shared->Prop} {s:Shared}
theorem zgx {l l':List Value} {ns:List Int} (p:List.Perm l l') (h:IntsAre l' ns): ∃ ms,IntsAre l ms/\List.Perm ms ns:=by
 induction p generalizing ns with
 | nil=>exact ⟨ns,h,.rfl⟩
 | cons x _ ih=>
  cases h with
  | cons n t h=>
   obtain ⟨ms,h1,h2⟩:=ih h
   exact ⟨n::ms,.cons n t h1,h2.cons n⟩
 | swap x y l=>
  cases h with
  | cons n t h=>
   cases h with
   | cons n' t' h=>exact ⟨n'::n::_,.cons n' t' (.cons n t h),.swap _ _ _⟩
 | trans _ _ ih1 ih2=>
  obtain ⟨ms,h1,h2⟩:=ih2 h
  obtain ⟨ms',h3,h4⟩:=ih1 h1
  exact ⟨ms',h3,h4.trans h2⟩
theorem zfb: ∀ {es:List (Int×Value)},ElemsOf (intKind prog w) es-> ∃ ms,IntsAre (es.map (·.2)) ms/\ ∀ k,k∈ms↔ ∃ e∈es,(intKind prog w).is k e.2=true
 | [],_=>⟨[],.nil,fun k=>by simp⟩
 | e::r,h=>by
  obtain ⟨ms,h1,h2⟩:=zfb (ElemsOf.tail h)
  obtain ⟨⟨k,hk,_⟩,_⟩:=ElemsOf.head h
  obtain ⟨t,ht⟩:=Value.isInt_shape (k:=k) (v:=e.2) hk
  refine ⟨k::ms,by rw [qaM,ht];exact .cons k t h1,fun z=> ?_⟩
  rw [qaP,h2 z]
  constructor
  ·rintro (c | ⟨e',c1,c2⟩)
   ·exact ⟨e,.head _,by rw [c];exact hk⟩
   ·exact ⟨e',.tail _ c1,c2⟩
  ·rintro ⟨e',c1,c2⟩
   rcases qaP.mp c1 with c | c
   ·subst c;exact .inl ((intKind prog w).inj _ _ _ c2 hk)
   ·exact .inr ⟨e',c,c2⟩
theorem zeI {x:Value} {Q:Value->Shared->Prop} (hc: ∀ E':Value->Shared->Prop,wpAny (model prog w) A.in1 (collect x) (fun vs s1=> ∃ ns,IntsAre vs ns/\vs.length<64/\ ∀ out e h',IntsAre out (zb7 ns)->(∀ b ob,s1.heap.get? b=some ob->h'.get? b=some ob)->
      h'.get? s1.heap.objs.size=some (seqObj "list" out.toArray e)->Q (.ref s1.heap.objs.size) {s1 with heap:=h'}) E' s):wpAny (model prog w) A (call (.builtin "sorted") [x]) Q E s:=by
 refine Calls.call_function_entry kind_sorted plain_sorted entry_sorted (args_sorted1 _) ?_
 unfold Builtin.«sorted»
 refine qaW (m:=checkCount "sorted" 1 1 _) (qaX ?_)
 refine qaW (m:=collect x) (qaZ (hc _) (fun vs s1 ⟨ns,hI,h64,q⟩=> ?_) fun _ _ z=>z)
 have small:vs.length<=sizeLine:=qaS (Nat.le_of_lt h64) (by decide)
 refine qaW (wpAny_newList ?_ small)
 have at0:(s1.heap.push {cls:= .type "list",data:= .seq vs.toArray}).get? s1.heap.objs.size=some (seqObj "list" vs.toArray 0):=qar _ rfl
 refine qaW (qaO (wpAny_call_entry slot_list_sort ⟨_,at0,rfl⟩ entry_list_sort (list_sort_tree (s:={s1 with heap:=s1.heap.push {cls:= .type "list",data:= .seq vs.toArray}}) at0 hI h64 fun out ns' a1 a2 a3=>⟨_,rfl,?_⟩) (args_list_sort _)))
 obtain ⟨e,he⟩:=sortedHeap_at (out:=out) at0
 refine qaX ⟨_,rfl,q out.toList e _ ?_ (fun b ob eb=> ?_) (by simpa using he)⟩
 ·rw [<- zej a2 a3];exact a1
 ·have lt:=qaQ eb
  rw [sortedHeap_old (qaR lt) (by rw [qaL];exact Nat.lt_succ_of_lt lt)]
  exact qag _ eb
theorem zhD {l:Addr} {vs:List Value} {Q:List Value->Shared->Prop} (hl:s.heap.IsTuple l vs.toArray) (small:vs.length<=sizeLine)
  (q: ∀ h',(∀ b ob,s.heap.get? b=some ob->h'.get? b=some ob)->Q vs {s with heap:=h'}):wpAny (model prog w) A (collect (.ref l)) Q E s:=by
 obtain ⟨ob,ho,hc,n,hd⟩:=id hl
 unfold collect
 refine qaW (wpAny_runValue (codeAny_builtin F.entry_proto_collect ?_))
 rw [qap F.plain_proto_collect _]
 show wpAny _ _ (newList []>>=fun d=>again (.builtin "list.__iadd__" ⟨[d,.ref l],[]⟩)) _ _ _
 refine qaW (qaC (qaX ⟨plainId_quiet F.plain_list_iadd _,codeAny_builtin F.entry_list_iadd ?_⟩))
 rw [qap F.plain_list_iadd _]
 show wpAny _ _ (Builtin.List.listExtendWith (.ref s.heap.objs.size) (.ref l) (.ref s.heap.objs.size)) _ _ _
 unfold Builtin.List.listExtendWith
 have ho':(s.heap.push {cls:= .type "list",data:= .seq ([]:List Value).toArray}).get? l=some ob:=qag _ ho
 have d0:(s.heap.push {cls:= .type "list",data:= .seq ([]:List Value).toArray}).get? s.heap.objs.size=some (seqObj "list" #[] 0):=qar _ rfl
 refine qaW (wpAny_typeOf (T:="tuple") ⟨ob,ho',hc⟩ ?_)
 rw [qa4 (by simp)]
 refine qaW (listItems_at ho' hd ?_)
 refine qaW (listItems_at d0 rfl ?_)
 rw [qa5 (by simp)]
 refine qaW (listUpdate_at (xs:= #[]) (n:=0) d0 rfl ?_ (Nat.zero_le _) (by show (#[]++vs.toArray).size<=sizeLine+1;simp;omega))
 refine qaX ?_
 show wpAny _ _ (load s.heap.objs.size>>=fun o=>match o.data with | .seq xs _=>pure xs.toList | _=>unsupported "internal:collect") _ _ _
 refine qaW (wpAny_load (get?_update_seq d0 _) ?_)
 have z:=q ((s.heap.push {cls:= .type "list",data:= .seq ([]:List Value).toArray}).update s.heap.objs.size (Obj.mapSeq fun x=>x++vs.toArray)) fun b ob e=>(qah _ _ (fun z=>qaN _ (z▸qaQ e))).trans (qag _ e)
 show wpAny _ _ (pure ((#[]:Array Value)++vs.toArray).toList) _ _ _
 rw [show ((#[]:Array Value)++vs.toArray).toList=vs by simp]
 exact qaX z
end
end LT
namespace L2
open PySem PySem.Spec PyProof.Rows LT
section
variable {X:Cx}
noncomputable def zkF (P:Program) (w:World) (p:Addr) (ns:List Int):HO:= .ext fun h=>zf7 P w h p (fun z=>(ns.foldl step_dedup []).any (· == z)) (ns.foldl step_dedup []).length
theorem zkQ (ns:List Int):(ns.foldl step_dedup []).length<=ns.length:=by
 rw [<- zez]
 exact firstMet_length_le _ _
theorem zkA (hc:X.calm=true):zaZ X (.type "set") (fun xs H Q=> ∃ (a:Addr) (ns:List Int),xs=[.ref a]/\(SqL X.K H a (ns.map V.int)\/SqT X.K H a (ns.map V.int))/\ns.length<4000/\ ∀ p,H p=none->Q (.ref p) (upd H p (zkF X.prog X.w p ns))):=by
 intro pins s σ H xs us Q I r h
 obtain ⟨a,ns,rfl,hq,hl,q⟩:=h
 obtain ⟨u,rfl,rx⟩:=zef r
 cases rx
 have fin: ∀ (items:Array Value),items.size=ns.length-> ∀ (h':Heap) (tk:Nat),zf7 X.prog X.w h' s.heap.objs.size (fun z=>(firstMet (fun i=>ns.getD i 0) items.size).any (· == z)) (firstMet (fun i=>ns.getD i 0) items.size).length->(∀ b ob,s.heap.get? b=some ob->h'.get? b=some ob)->
   EP X pins σ Q (.ref s.heap.objs.size) {s with heap:=h',toks:=tk}:=fun items hz h' tk g k=>by
  rw [hz,zez] at g
  refine ⟨.ref s.heap.objs.size,_,I.laid (t':=tk) (o:=zkF X.prog X.w s.heap.objs.size ns) k (qaV _) ⟨g,?_,fun h1 h2 z e=>z.move e (fun _=>rfl) rfl⟩,rfl,q _ (I.hok.fresh (qaV _))⟩
  obtain ⟨ob,es,ep,tb,⟨h1,_⟩,_⟩:=g
  exact ⟨ob,h1⟩
 have room:ns.length+1<scanBound:=by
  have:scanBound=4096:=rfl
  omega
 rcases hq with hq | hq
 ·obtain ⟨its,r',pl,_⟩:=I.list hq
  have hz:its.toArray.size=ns.length:=by rw [qaA, <-r'.length,qaH]
  exact zud (I.ok.hd hc) (.inl ⟨rfl,pl.isList⟩) (by simpa using zcA r') (by rw [hz];exact room) fun h' tk g k=>fin _ hz h' tk g k
 ·obtain ⟨its,r',pl,_⟩:=I.tuple hq
  have hz:its.toArray.size=ns.length:=by rw [qaA, <-r'.length,qaH]
  exact zud (I.ok.hd hc) (.inr ⟨rfl,pl⟩) (by simpa using zcA r') (by rw [hz];exact room) fun h' tk g k=>fin _ hz h' tk g k
theorem Inv.grown {pins:List (Addr×Obj)} {σ:St} {H:Hp} {s s':Shared} (I:Inv X pins σ H s) (ho:s'.os=s.os) (hg:s'.gens=s.gens) (k: ∀ b ob,s.heap.get? b=some ob->s'.heap.get? b=some ob):Inv X pins σ H s':=
 I.call' (ch:=[]) ho (Un.kept k) (I.hok.kept k) (by rw [hg];exact I.bare) fun b z=>nomatch z
theorem zmg {out:List Value} {ms:List Int} (h:IntsAre out ms):zbm (ms.map V.int) out:=zet h
theorem zec (hc:X.calm=true):zaZ X (.builtin "sorted") (fun xs H Q=> ∃ (p:Addr) (ns:List Int),xs=[.ref p]/\((((ns.foldl step_dedup []).length<64/\H p=some (zkF X.prog X.w p ns))/\ ∀ l,H l=none->Q (.ref l) (upd H l (.lst ((zeV ns).map V.int))))\/
    ((ns.length<64/\(SqL X.K H p (ns.map V.int)\/SqT X.K H p (ns.map V.int)))/\ ∀ l,H l=none->Q (.ref l) (upd H l (.lst ((zb7 ns).map V.int)))))):=by
 intro pins s σ H xs us Q I r h
 obtain ⟨p,ns,rfl,h⟩:=h
 obtain ⟨u,rfl,rx⟩:=zef r
 cases rx
 have fin: ∀ (s1:Shared) (ms:List Int),ms.length<=64->(∀ b ob,s.heap.get? b=some ob->s1.heap.get? b=some ob)->s1.gens=s.gens->s1.os=s.os->(∀ l,H l=none->Q (.ref l) (upd H l (.lst ((zb7 ms).map V.int))))-> ∀ out e h',IntsAre out (zb7 ms)->(∀ b ob,s1.heap.get? b=some ob->h'.get? b=some ob)->
   h'.get? s1.heap.objs.size=some (seqObj "list" out.toArray e)->EP X pins σ Q (.ref s1.heap.objs.size) {s1 with heap:=h'}:=fun s1 ms hm k g1 o1 q out e h' hi k2 e2=>by
  have I1:=I.grown o1 g1 k
  refine ⟨.ref s1.heap.objs.size,_,I1.laid (t':=s1.toks) (o:= .lst ((zb7 ms).map V.int)) k2 (qaV _) ⟨?_,out,e,zmg hi,e2⟩,rfl,q _ (I1.hok.fresh (qaV _))⟩
  rw [qaH,(zaD ms).length_eq]
  exact qaS hm (by decide)
 rcases h with ⟨⟨hl,hs⟩,q⟩ | ⟨⟨hl,hq⟩,q⟩
 ·obtain ⟨g,_⟩:=(show zbz X.prog X.w H s.heap p (zkF X.prog X.w p ns) from I.hok p _ hs)
  refine zeI fun E'=>zlE (show X.A.in1.handled=none from I.ok.hd hc) g fun vs s1 es ep tb hob pv k g1 o1=> ?_
  obtain ⟨ob',es',ep',tb',⟨a1,a2,a3⟩,h4,h5,⟨h6,h7,h8⟩,h9⟩:=g
  obtain ⟨ob,b1,b2,b3⟩:=hob
  rw [a1] at b1
  cases b1
  rw [a3] at b3
  cases b3
  obtain ⟨ms,m1,m2⟩:=zfb h4
  obtain ⟨ms',m3,m4⟩:=zgx pv m1
  have len:ms.length=(ns.foldl step_dedup []).length:=by
   rw [<- m1.length,qaH,qas]
   exact h8
  have pm:List.Perm ms (ns.foldl step_dedup []):=zeJ (zeu ns [] List.nodup_nil) (fun z hz=>by
    rw [m2 z, <-h5 z]
    exact List.any_eq_true.mpr ⟨z,hz,by simp⟩) (Nat.le_of_eq len)
  have es1:zb7 ms'=zeV ns:=by
   unfold zeV
   exact zej ((zaD ms').trans (m4.trans pm)) (zcX ms')
  have lm:ms'.length<64:=by
   rw [m4.length_eq,len]
   exact hl
  refine ⟨ms',m3,by rw [m3.length];omega,fun out e h' hi k2 e2=> ?_⟩
  exact fin s1 ms' (by omega) k g1 o1 (by rw [es1];exact q) out e h' hi k2 e2
 ·rcases hq with hq | hq
  ·obtain ⟨its,r',pl,hz⟩:=I.list hq
   have hi:=zcA r'
   have lz:its.length=ns.length:=by rw [<- r'.length,qaH]
   refine zeI fun E'=>collect_list pl.isList ?_ (by rw [lz, <-qaH (f:=V.int)];exact hz)
   refine ⟨ns,hi,by omega,fun out e h' hi2 k2 e2=> ?_⟩
   refine fin {s with heap:=(s.heap.push (seqObj "list" #[] 0)).update s.heap.objs.size (Obj.mapSeq fun x=>x++its.toArray)} ns (by omega) (fun b ob eb=> ?_) rfl rfl q out e h' hi2 k2 e2
   exact (qah _ _ (fun z=>qaN _ (z▸qaQ eb))).trans (qag _ eb)
  ·obtain ⟨its,r',pl,hz⟩:=I.tuple hq
   have hi:=zcA r'
   have lz:its.length=ns.length:=by rw [<- r'.length,qaH]
   refine zeI fun E'=>zhD pl (by rw [lz, <-qaH (f:=V.int)];exact hz) fun h1 k1=> ?_
   refine ⟨ns,hi,by omega,fun out e h' hi2 k2 e2=> ?_⟩
   exact fin {s with heap:=h1} ns (by omega) k1 rfl rfl q out e h' hi2 k2 e2
theorem zj5 (hc:X.calm=true):zaZ X (.builtin "all") (fun xs H Q=> ∃ (a:Addr) (bs:List Bool),xs=[.ref a]/\SqL X.K H a (bs.map V.bl)/\Q (.bl (bs.all id)) H):=by
 intro pins s σ H xs us Q I r h
 obtain ⟨a,bs,rfl,hq,q⟩:=h
 obtain ⟨u,rfl,rx⟩:=zef r
 cases rx
 obtain ⟨its,r',pl,hz⟩:=I.list hq
 have hlt:a<s.heap.objs.size:=by obtain ⟨_,e,_⟩:=pl.isList;exact qaQ e
 refine call_all_walk (wpAny_pyIter_list pl.isList ?_)
 refine ⟨s.heap.objs.size,[s.heap.objs.size,a],[s.heap.objs.size],its.toArray.size,_,_,fun i=>(bs[i]?).getD true,rfl,Walks.list (A:=X.A.in1) (I.ok.hd hc) _ a (qaR hlt) its.toArray,⟨⟨_,qar _ rfl,rfl,rfl⟩,pl.isList.push _⟩,fun i v s' Q' E' hP hQ=> ?_,fun h' tk hk=> ?_⟩
 ·have hv:its[i]? = some v:=by simpa using hP
  obtain ⟨hi,_⟩:=qac.mp hv
  have hlen:bs.length=its.length:=by rw [<- r'.length,qaH]
  have hb:(bs.map V.bl)[i]? = some (V.bl bs[i]):=by simp [hlen,hi]
  obtain ⟨u',hu,ru⟩:=r'.get hb
  rw [hv] at hu
  cases hu
  cases ru
  have e:(bs[i]?).getD true=bs[i]:=by simp [hlen,hi]
  have hQ:Q' ((bs[i]?).getD true) s':=hQ
  rw [e] at hQ
  exact wpAny_truthy_bool hQ
 ·have e:((List.range its.toArray.size).all fun i=>(bs[i]?).getD true)=bs.all id:=by
   have hlen:bs.length=its.length:=by rw [<- r'.length,qaH]
   rw [qaA, <-hlen]
   rw [Bool.eq_iff_iff,List.all_eq_true,List.all_eq_true]
   constructor
   ·intro h x hx
    obtain ⟨i,hi⟩:=List.mem_iff_getElem?.mp hx
    have hl:=(qac.mp hi).1
    have:=h i (by simpa using hl)
    rw [hi] at this
    exact this
   ·intro h i hi
    have hl:i<bs.length:=by simpa using hi
    have e1:bs[i]? = some bs[i]:=by simp [hl]
    rw [e1]
    exact h _ (List.getElem_mem hl)
  rw [e]
  refine ⟨.bl _,H,I.grown (s':={s with heap:=h',toks:=tk}) rfl rfl fun b ob eb=>hk b ob (fun z=> ?_) (qag _ eb),rfl,q⟩
  simp only [qaP,qaF,or_false] at z
  exact qaN _ (z▸qaQ eb)
end
end L2
namespace L3
open PySem PySem.Spec PyProof.Rows L2 LT
section
variable {X:Cx} {E:XE} {e:Expr} {es:List Expr} {pos p:Pos} {fs:Sd->M (List D)} {x:Str}
theorem zlo {id:String} {F:List D->M D} (hc:zaZ X (.builtin id) (zhU X.K E F)) (hg:Gl X x) (hm:X.mg x=none) (hv:bootBuiltins x=some (.builtin id)) (ha:SA X E (e::es) fs) (hn:x≠"__name__":=by decide) (hdb:(x==("__debug__":Str))=false:=by decide)
  (he:starEach (e::es) X.env=(false,eval e X.env)::starEach es X.env:=by rfl) (hpl:(backTo pos (starEach es X.env)).any (·.1)=false:=by rfl):SE X E (.Call (.Name x p) (e::es) [] pos) (fun sd=>do let ds<-fs sd;F ds):=
 PE.imp (zdz hc hg hm hv ha hn hdb he hpl) fun σ H Q ⟨ι,h,sd,L,hh,q⟩=>⟨ι,h,sd,L,hh,Fin.bind q fun ds h1 ι1 H1 e1 s1 hr1 q1 vs rv=>⟨ι1,h1,ds,rv,hr1,q1⟩⟩
theorem zkx {T:String} {F:List D->M D} (hc:zaZ X (.type T) (zhU X.K E F)) (hg:Gl X x) (hm:X.mg x=none) (hv:bootBuiltins x=some (.type T)) (ha:SA X E (e::es) fs) (hn:x≠"__name__":=by decide) (hdb:(x==("__debug__":Str))=false:=by decide)
  (he:starEach (e::es) X.env=(false,eval e X.env)::starEach es X.env:=by rfl) (hpl:(backTo pos (starEach es X.env)).any (·.1)=false:=by rfl):SE X E (.Call (.Name x p) (e::es) [] pos) (fun sd=>do let ds<-fs sd;F ds):=
 PE.imp (zgQ hc hg hm hv ha hn hdb he hpl) fun σ H Q ⟨ι,h,sd,L,hh,q⟩=>⟨ι,h,sd,L,hh,Fin.bind q fun ds h1 ι1 H1 e1 s1 hr1 q1 vs rv=>⟨ι1,h1,ds,rv,hr1,q1⟩⟩
noncomputable def znj:D->M (List D)
 | .tup ds=>pure ds
 | .lst ds=>pure ds
 | .scr ds=>pure ds
 | .cel n=>zao n
 | _=>M.bad
theorem zen {K:W.Frag} {ι:Io} {H:Hp} {h:Hh} {d:D} {v:V} {α:Type} {f:List D->M α} {P:α->Io->Hp->Prop} (hr:zbb K ι H h) (r:Rel K ι H d v) (q:Fin K E ι H ((do let ds<-znj d;f ds) h) P):
  ∃ a vs ds,v= .ref a/\((SqL K H a vs/\ ∀ ts,d≠ .tup ts)\/(SqT K H a vs/\d= .tup ds))/\zas K ι H ds vs/\Fin K E ι H (f ds h) P:=by
 cases d with
 | tup ds=>
  obtain ⟨a,vs,e,h1,h2⟩:=zdc r
  exact ⟨a,vs,ds,e,.inr ⟨h1,rfl⟩,h2,q⟩
 | lst ds=>
  obtain ⟨a,vs,e,h1,h2⟩:=zeb r
  exact ⟨a,vs,ds,e,.inl ⟨h1,fun _ z=>by cases z⟩,h2,q⟩
 | scr ds=>
  obtain ⟨a,vs,e,h1,h2⟩:=zle r
  exact ⟨a,vs,ds,e,.inl ⟨h1,fun _ z=>by cases z⟩,h2,q⟩
 | cel n=>
  have q':Fin K E ι H (M.bind (zao n) f h) P:=q
  unfold M.bind at q'
  cases z:zao n h with
  | bad=>rw [z] at q';exact qa0 q'
  | exc c h'=>unfold zao at z;split at z<;>cases z
  | ok ds h'=>
   rw [z] at q'
   obtain ⟨rfl,z2⟩:=zcv z
   obtain ⟨a,vs,e,hn,hH,rl⟩:=hr.read r z2
   exact ⟨a,vs,ds,e,.inl ⟨SqL.of hH,fun _ z=>by cases z⟩,rl,q'⟩
 | _=>exact qa0 q
theorem zoK {K:W.Frag} {H:Hp} {a:Addr} {vs:List V} {d:D} {ds:List D} (h:(SqL K H a vs/\ ∀ ts,d≠ .tup ts)\/(SqT K H a vs/\d= .tup ds)):SqL K H a vs\/SqT K H a vs:=h.imp And.left And.left
theorem zts {K:W.Frag} {ι:Io} {H:Hp} {d:D} {xs:List V} (h:zas K ι H [d] xs): ∃ v,xs=[v]/\Rel K ι H d v:=by
 simp only [zas] at h
 obtain ⟨v,r,rfl,h1,rfl⟩:=h
 exact ⟨v,rfl,h1⟩
noncomputable def zm4 {α:Type} (f:D->M α):List D->M α
 | [d]=>f d
 | _=>M.bad
theorem zc1 {α:Type} {K:W.Frag} {ι:Io} {H:Hp} {h:Hh} {f:D->M α} {ds:List D} {xs:List V} {P:α->Io->Hp->Prop} (rl:zas K ι H ds xs) (q:Fin K E ι H (zm4 f ds h) P): ∃ d v,xs=[v]/\Rel K ι H d v/\Fin K E ι H (f d h) P:=by
 match ds,rl,q with
 | [d],rl,q=>
  obtain ⟨v,e,r⟩:=zts rl
  exact ⟨d,v,e,r,q⟩
 | [],_,q=>exact qa0 q
 | _::_::_,_,q=>exact qa0 q
noncomputable def zeW:List D->M D:=zm4 fun d=>do let ds<-znj d;pure (.int ds.length)
theorem zaW:zaZ X (.builtin "len") (zhU X.K E zeW):=by
 refine zaZ.imp zgB fun xs H Q ⟨ι,h,ds,rl,hr,q⟩=> ?_
 obtain ⟨d,v,e,r,q⟩:=zc1 rl q
 obtain ⟨a,vs,ds',e',hs,rl',q⟩:=zen hr r q
 exact ⟨a,vs,by rw [e,e'],zoK hs,Fin.out hr q _ (by rw [rl'.length];simp [Rel])⟩
noncomputable def zcK:List D->M D:=zm4 fun d=>do let ds<-znj d;pure (.tup ds)
theorem zba:zaZ X (.type "tuple") (zhU X.K E zcK):=by
 refine zaZ.imp zfJ fun xs H Q ⟨ι,h,ds,rl,hr,q⟩=> ?_
 obtain ⟨d,v,e,r,q⟩:=zc1 rl q
 obtain ⟨a,vs,ds',e',hs,rl',q⟩:=zen hr r q
 refine ⟨a,vs,by rw [e,e'],?_⟩
 rcases hs with ⟨hs,_⟩ | ⟨hs,hd⟩
 ·exact .inl ⟨hs,fun l hl=>zsB hr rl' q hl⟩
 ·exact .inr ⟨hs,Fin.out hr q _ (by rw [<- e', <-hd];exact r)⟩
noncomputable def ztU:List D->M D:=zm4 fun d=>do let ds<-znj d;pure (.lst ds)
noncomputable def two2 (g:Int->Int->Int):List D->M D
 | [.int i,.int j]=>pure (.int (g i j))
 | _=>M.bad
theorem two2_inv {K:W.Frag} {ι:Io} {H:Hp} {h:Hh} {g:Int->Int->Int} {ds:List D} {xs:List V} {P:D->Io->Hp->Prop} (hr:zbb K ι H h) (rl:zas K ι H ds xs) (q:Fin K E ι H (two2 g ds h) P): ∃ i j,xs=[.int i,.int j]/\P (.int (g i j)) ι H:=by
 unfold two2 at q
 split at q
 ·simp only [zas,Rel] at rl
  obtain ⟨v,r,rfl,rfl,v',r',rfl,rfl,rfl⟩:=rl
  exact ⟨_,_,rfl,Fin.out hr q⟩
 ·exact qa0 q
noncomputable def zoR:=two2 fun i j=>if j>i then j else i
noncomputable def zn4:=two2 fun i j=>if j<i then j else i
theorem ziZ (hc:X.calm=true):zaZ X (.builtin "max") (zhU X.K E zoR):=by
 refine zaZ.imp (zjt hc) fun xs H Q ⟨ι,h,ds,rl,hr,q⟩=> ?_
 obtain ⟨i,j,e,q⟩:=two2_inv hr rl q
 exact ⟨i,j,e,q _ (by simp [Rel])⟩
theorem ziH (hc:X.calm=true):zaZ X (.builtin "min") (zhU X.K E zn4):=by
 refine zaZ.imp (zk6 hc) fun xs H Q ⟨ι,h,ds,rl,hr,q⟩=> ?_
 obtain ⟨i,j,e,q⟩:=two2_inv hr rl q
 exact ⟨i,j,e,q _ (by simp [Rel])⟩
noncomputable def zlp:List D->Option (List Bool)
 | []=>some []
 | .bl b::r=>(zlp r).map (b:: ·)
 | _=>none
noncomputable def zdU:List D->Option (List Int)
 | []=>some []
 | .int i::r=>(zdU r).map (i:: ·)
 | _=>none
theorem zfI {K:W.Frag} {ι:Io} {H:Hp}: ∀ {ds:List D} {vs:List V} {bs:List Bool},zas K ι H ds vs->zlp ds=some bs->vs=bs.map V.bl
 | [],_,_,h,e=>by simp only [zas] at h;subst h;cases e;rfl
 | d::ds,_,bs,h,e=>by
  simp only [zas] at h
  obtain ⟨v,r,rfl,h1,h2⟩:=h
  cases d with
  | bl b=>
   unfold zlp at e
   cases z:zlp ds with
   | none=>rw [z] at e;cases e
   | some cs=>
    rw [z] at e
    cases e
    simp only [Rel] at h1
    rw [h1,zfI h2 z]
    rfl
  | _=>cases e
theorem zdH {K:W.Frag} {ι:Io} {H:Hp}: ∀ {ds:List D} {vs:List V} {bs:List Int},zas K ι H ds vs->zdU ds=some bs->vs=bs.map V.int
 | [],_,_,h,e=>by simp only [zas] at h;subst h;cases e;rfl
 | d::ds,_,bs,h,e=>by
  simp only [zas] at h
  obtain ⟨v,r,rfl,h1,h2⟩:=h
  cases d with
  | int b=>
   unfold zdU at e
   cases z:zdU ds with
   | none=>rw [z] at e;cases e
   | some cs=>
    rw [z] at e
    cases e
    simp only [Rel] at h1
    rw [h1,zdH h2 z]
    rfl
  | _=>cases e
theorem Fin.ofOb {α β:Type} {K:W.Frag} {ι:Io} {H:Hp} {h:Hh} {o:Option α} {f:α->M β} {P:β->Io->Hp->Prop} (q:Fin K E ι H ((do let a<-L3.ofO o;f a) h) P): ∃ a,o=some a/\Fin K E ι H (f a h) P:=by
 cases o with
 | none=>exact qa0 q
 | some a=>exact ⟨a,rfl,q⟩
noncomputable def zsG:List D->M D:=zm4 fun d=>match d with
 | .lst ds=>do let bs<-ofO (zlp ds);pure (.bl (bs.all id))
 | _=>M.bad
theorem zgs (hc:X.calm=true):zaZ X (.builtin "all") (zhU X.K E zsG):=by
 refine zaZ.imp (zj5 hc) fun xs H Q ⟨ι,h,ds,rl,hr,q⟩=> ?_
 obtain ⟨d,v,e,r,q⟩:=zc1 rl q
 cases d with
 | lst ds=>
  obtain ⟨a,vs,e',h1,h2⟩:=zeb r
  obtain ⟨bs,eb,q⟩:=Fin.ofOb q
  have:=zfI h2 eb
  subst this
  exact ⟨a,bs,by rw [e,e'],h1,Fin.out hr q _ (by simp [Rel])⟩
 | _=>exact qa0 q
noncomputable def zuf:List D->M D:=zm4 fun d=>match d with
 | .lst ds=>do let bs<-ofO (zdU ds);pure (.int bs.sum)
 | _=>M.bad
noncomputable def zhF:List D->M D:=zm4 fun d=>do
 let ds<-znj d
 let ns<-ofO (zdU ds)
 if ns.length<64 then pure (.lst ((zb7 ns).map D.int)) else M.bad
theorem zgH (hc:X.calm=true):zaZ X (.builtin "sorted") (zhU X.K E zhF):=by
 refine zaZ.imp (zec hc) fun xs H Q ⟨ι,h,ds,rl,hr,q⟩=> ?_
 obtain ⟨d,v,e,r,q⟩:=zc1 rl q
 obtain ⟨a,vs,ds',e',hs,rl',q⟩:=zen hr r q
 obtain ⟨ns,en,q⟩:=Fin.ofOb q
 have:=zdH rl' en
 subst this
 obtain ⟨hl,q⟩:=Fin.guard q
 exact ⟨a,ns,by rw [e,e'],.inr ⟨⟨hl,zoK hs⟩,fun l hl=>zr4 hr (zcV.mpr rfl) q hl⟩⟩
noncomputable def zbW (d:D):M D:=do
 let ds<-znj d
 let ns<-ofO (zdU ds)
 if (ns.foldl step_dedup []).length<64/\ns.length<4000 then pure (.lst ((zeV ns).map D.int)) else M.bad
theorem zi4 {p1 p2 pos2:Pos} {f:Sd->M D} (hc:X.calm=true) (hg1:Gl X "sorted") (hm1:X.mg "sorted"=none) (hg2:Gl X "set") (hm2:X.mg "set"=none) (he:SE X E e f)
  (h1:starEach [.Call (.Name "set" p2) [e] [] pos2] X.env=[(false,eval (.Call (.Name "set" p2) [e] [] pos2) X.env)]:=by rfl) (h2:starEach [e] X.env=[(false,eval e X.env)]:=by rfl):
  SE X E (.Call (.Name "sorted" p1) [.Call (.Name "set" p2) [e] [] pos2] [] pos) (fun sd=>do let d<-f sd;zbW d):=by
 refine PE.imp (zdz (zec hc) hg1 hm1 boot_sorted (zbs (zgQ (zkA hc) hg2 hm2 PyProof.Rows.boot_set (zbs he zcU h2) (he:=h2)) zcU h1) (he:=h1)) fun σ H Q ⟨ι,h,sd,L,hh,q⟩=>⟨ι,h,sd,L,hh,Fin.bind q fun d h1 ι1 H1 e1 s1 hr1 q1 v rv=> ?_⟩
 obtain ⟨a,vs,ds',e',hs,rl',q2⟩:=zen hr1 rv q1
 obtain ⟨ns,en,q3⟩:=Fin.ofOb q2
 have:=zdH rl' en
 subst this
 obtain ⟨hl,q4⟩:=Fin.guard q3
 refine ⟨a,ns,by rw [e'],zoK hs,hl.2,fun p hp=> ?_⟩
 have hr2:zbb X.K ι1 (upd H1 p (zkF X.prog X.w p ns)) h1:=hr1.laid hp
 exact ⟨p,ns,rfl,.inl ⟨⟨hl.1,zaH⟩,fun l hl'=>zr4 hr2 (zcV.mpr rfl) (Fin.step (hr1.laidS hp) q4) hl'⟩⟩
end
noncomputable def tyD:D->M String
 | .non=>pure "NoneType"
 | .bl _=>pure "bool"
 | .int _=>pure "int"
 | .str _=>pure "str"
 | .tup _=>pure "tuple"
 | .lst _=>pure "list"
 | .dct=>pure "dict"
 | .cel n=>do let _<-zao n;pure "list"
 | _=>M.bad
noncomputable def zjH:List String:=["NoneType","bool","int","str","tuple","list","dict"]
noncomputable def isB (T t:String):Bool:=t==T || (t=="bool" && T=="int")
noncomputable def zhk (T:String) (d:D):M D:=do let t<-tyD d;pure (.bl (isB T t))
def zi1 (T:String):Prop:= ∀ (K:W.Frag), ∀ t∈zjH,W.kitOne K (.type t) (.type T)=some (isB T t)
noncomputable def zue (t T:String):Option Bool:=if ((Value.type t)==(Value.type T))=true then some true else if W.kitMeta T=true then (fastBuiltinMro t).map (·.contains (Value.type T)) else none
theorem zfM {T:String} (h:(zjH.all fun t=>zue t T==some (isB T t))=true):zi1 T:=fun K t ht=>by
 have:=List.all_eq_true.mp h t ht
 have e:W.kitOne K (.type t) (.type T)=zue t T:=rfl
 rw [e]
 exact beq_iff_eq.mp this
theorem zoV:zi1 "int":=zfM (by decide +kernel)
theorem zlX:zi1 "bool":=zfM (by decide +kernel)
theorem zdw:zi1 "tuple":=zfM (by decide +kernel)
section
variable {X:Cx} {E:XE} {α:Type}
theorem znK {K:W.Frag} {ι:Io} {H:Hp} {h:Hh} {d:D} {v:V} {f:String->M α} {P:α->Io->Hp->Prop} (hr:zbb K ι H h) (r:Rel K ι H d v) (q:Fin K E ι H ((do let t<-tyD d;f t) h) P):
  ∃ t,t∈zjH/\zih K H v (.type t)/\Fin K E ι H (f t h) P:=by
 cases d with
 | non=>simp only [Rel] at r;subst r;exact ⟨_,by decide,.non,q⟩
 | bl b=>simp only [Rel] at r;subst r;exact ⟨_,by decide,.bl b,q⟩
 | int b=>simp only [Rel] at r;subst r;exact ⟨_,by decide,.int b,q⟩
 | str b=>simp only [Rel] at r;subst r;exact ⟨_,by decide,.str b,q⟩
 | tup ds=>
  simp only [Rel] at r
  obtain ⟨a,vs,e,h1,h2⟩:=r
  subst e
  exact ⟨_,by decide,.tup h1.1,q⟩
 | lst ds=>
  simp only [Rel] at r
  obtain ⟨a,vs,e,h1,h2⟩:=r
  subst e
  exact ⟨_,by decide,.lst h1.1,q⟩
 | dct=>
  simp only [Rel] at r
  obtain ⟨a,e,h1,h2⟩:=r
  subst e
  exact ⟨_,by decide,.dK h1,q⟩
 | cel n=>
  have q':Fin K E ι H (M.bind (zao n) (fun _=>f "list") h) P:=by
   have e:(do let t<-tyD (.cel n);f t:M α)=(zao n>>=fun _=>f "list"):=by
    show ((zao n>>=fun _=>pure "list")>>=f)=_
    simp only [bind_assoc,pure_bind]
   rw [e] at q
   exact q
  unfold M.bind at q'
  cases z:zao n h with
  | bad=>rw [z] at q';exact qa0 q'
  | exc c h'=>unfold zao at z;split at z<;>cases z
  | ok ds h'=>
   rw [z] at q'
   obtain ⟨rfl,z2⟩:=zcv z
   obtain ⟨a,vs,e,hn,hH,rl⟩:=hr.read r z2
   subst e
   exact ⟨_,by decide,.lst hH,q'⟩
 | _=>exact qa0 q
theorem zl3:zaZ X (.builtin "isinstance") (fun xs H Q=> ∃ x t T b,xs=[x,.ty T]/\zih X.K H x t/\W.kitOne X.K t (.type T)=some b/\Q (.bl b) H):=by
 intro pins s σ H xs us Q I r h
 obtain ⟨x,t,T,b,rfl,ty,e,q⟩:=h
 cases r with
 | cons r1 r2=>
  cases r2 with
  | cons r3 r4=>
   cases r4
   cases r3
   exact zkW I r1 ty e fun tk=>⟨.bl b,H,I.tok tk,rfl,q⟩
theorem zpQ {a:Expr} {x:Str} {T:String} {p1 p2 pos:Pos} {fa:Sd->M D} (hk:zi1 T) (hg:Gl X "isinstance") (hm:X.mg "isinstance"=none) (hgT:Gl X x) (hmT:X.mg x=none) (hvT:bootBuiltins x=some (.type T)) (ha:SE X E a fa)
  (hn:x≠"__name__":=by decide) (hd:(x==("__debug__":Str))=false:=by decide)
  (h1:starEach [a,.Name x p2] X.env=(false,eval a X.env)::starEach [.Name x p2] X.env:=by rfl) (h2:starEach [.Name x p2] X.env=[(false,eval (.Name x p2) X.env)]:=by rfl)
  (hpl:(backTo pos (starEach [.Name x p2] X.env)).any (·.1)=false:=by rfl):
  SE X E (.Call (.Name "isinstance" p1) [a,.Name x p2] [] pos) (fun sd=>do let d<-fa sd;zhk T d):=by
 refine PE.imp (zdz zl3 hg hm PyProof.Rows.boot_isinstance (zbs ha (zbs (zlb (v:= .ty T) hgT hmT hvT rfl hn hd) zcU h2) h1) (he:=h1) (hpl:=hpl)) fun σ H Q ⟨ι,h,sd,L,hh,q⟩=>⟨ι,h,sd,L,hh,Fin.bind q fun d h1 ι1 H1 e1 s1 hr1 q1 v rv=> ?_⟩
 obtain ⟨t,ht,ty,q2⟩:=znK hr1 rv q1
 exact ⟨v,.type t,T,isB T t,rfl,ty,hk X.K t ht,Fin.out hr1 q2 _ (by simp [Rel])⟩
noncomputable def ztY (xs:List D) (lo hi:Option Int):List D:=(xs.drop (HT.sIx xs.length 0 lo)).take (HT.sIx xs.length xs.length hi - HT.sIx xs.length 0 lo)
noncomputable def dSl (d:D) (lo hi:Option Int):M D:=match d with
 | .tup ds=>pure (.tup (ztY ds lo hi))
 | .lst ds=>pure (.lst (ztY ds lo hi))
 | _=>M.bad
noncomputable def ztt:Sd->M (Option Int):=fun _=>pure none
noncomputable def znS:D->M (Option Int)
 | .int i=>pure (some i)
 | _=>M.bad
noncomputable def zt0 (f:Sd->M D):Sd->M (Option Int):=fun sd=>do let d<-f sd;znS d
noncomputable def cSl (f:Sd->M D) (lo hi:Sd->M (Option Int)):Sd->M D:=fun sd=>do let d<-f sd;let l<-lo sd;let u<-hi sd;dSl d l u
noncomputable def zuD:D->M D
 | .tup ds=>pure (.tup ds.reverse)
 | _=>M.bad
noncomputable def zje (x y:D):M D:=match x,y with
 | .int i,.int j=>if (zbk i || zbk j)=true then pure (.int (i*j)) else M.bad
 | .tup xs,.int k=>if xs≠[]/\2<=k/\k<1000/\xs.length*k.toNat<=sizeLine then pure (.tup (List.replicate k.toNat xs).flatten) else M.bad
 | _,_=>M.bad
theorem zas.rep {K:W.Frag} {ι:Io} {H:Hp} {ds:List D} {vs:List V} (h:zas K ι H ds vs): ∀ n,zas K ι H (List.replicate n ds).flatten (List.replicate n vs).flatten
 | 0=>zas.nil
 | n+1=>by
  rw [List.replicate_succ,List.replicate_succ,List.flatten_cons,List.flatten_cons]
  exact zas.append h (zas.rep h n)
theorem zde:OpR X (binaryOp .Mult) (zc7 X.K E zje):=by
 refine OpR.imp (zrf.or zoh) fun x y H Q ⟨ι,h,d1,d2,r1,r2,hr,q⟩=> ?_
 unfold zje at q
 split at q
 ·simp only [Rel] at r1 r2
  obtain ⟨c,q⟩:=Fin.guard q
  refine .inl ⟨_,_,r1,r2,?_,Fin.out hr q _ (by simp [Rel])⟩
  rcases (Bool.or_eq_true _ _).mp c with z | z
  ·exact .inl (zcG z)
  ·exact .inr (zcG z)
 ·simp only [Rel] at r2
  obtain ⟨a,vs,e,k1,k2⟩:=zdc r1
  obtain ⟨⟨c1,c2,c3,c4⟩,q⟩:=Fin.guard q
  refine .inr ⟨a,_,vs,e,r2,k1,fun z=>c1 ?_,c2,c3,by rw [<- k2.length];exact c4,fun p hp=>zsB hr (k2.rep _) q hp⟩
  subst z
  exact List.eq_nil_of_length_eq_zero k2.length
 ·exact qa0 q
mutual
noncomputable def pdH (h:Hh):D->Option PyData
 | .non=>some .none
 | .bl b=>some (.bool b)
 | .int i=>some (.int i)
 | .str x=>some (.str x)
 | .tup xs=>(zjg h xs).map .tuple
 | .lst xs=>(zjg h xs).map .list
 | .cel n=>match h[n]? with
  | some (.lst ds)=>(pdL ds).map .list
  | _=>none
 | _=>none
noncomputable def zjg (h:Hh):List D->Option (List PyData)
 | []=>some []
 | x::xs=>match pdH h x,zjg h xs with
  | some a,some r=>some (a::r)
  | _,_=>none
end
mutual
theorem zkY {pins:List (Addr×Obj)} {σ:L2.St} {H:Hp} {s:Shared} {ι:Io} {h:Hh} (I:Inv X pins σ H s) (hr:zbb X.K ι H h): ∀ {d:D} {v:V} {u:Value} {p:PyData},Rel X.K ι H d v->zby v u->pdH h d=some p-> ∃ as,Reads s.heap u p as
 | .non,v,u,p,r,ru,e=>by simp only [Rel] at r;subst r;cases ru;simp only [pdH] at e;cases e;exact ⟨_,.none⟩
 | .bl b,v,u,p,r,ru,e=>by simp only [Rel] at r;subst r;cases ru;simp only [pdH] at e;cases e;exact ⟨_,.bool _⟩
 | .int i,v,u,p,r,ru,e=>by simp only [Rel] at r;subst r;obtain ⟨t,rfl⟩:=ru;simp only [pdH] at e;cases e;exact ⟨_,.int _ _⟩
 | .str i,v,u,p,r,ru,e=>by simp only [Rel] at r;subst r;obtain ⟨t,rfl⟩:=ru;simp only [pdH] at e;cases e;exact ⟨_,.str _ _⟩
 | .tup ds,v,u,p,r,ru,e=>by
  obtain ⟨a,vs,rfl,h1,h2⟩:=zdc r
  cases ru
  obtain ⟨its,rv,pl,_⟩:=I.tuple h1
  obtain ⟨o,ho,hc,n,hd⟩:=pl
  simp only [pdH] at e
  cases z:zjg h ds with
  | none=>rw [z] at e;cases e
  | some ps=>
   rw [z] at e;cases e
   obtain ⟨as,q⟩:=zhs I hr h2 rv z
   exact ⟨_,.tuple ho hc hd (by simpa using q)⟩
 | .lst ds,v,u,p,r,ru,e=>by
  obtain ⟨a,vs,rfl,h1,h2⟩:=zeb r
  cases ru
  obtain ⟨its,rv,pl,_⟩:=I.list h1
  obtain ⟨o,ho,hc,n,hd⟩:=pl.isList
  simp only [pdH] at e
  cases z:zjg h ds with
  | none=>rw [z] at e;cases e
  | some ps=>
   rw [z] at e;cases e
   obtain ⟨as,q⟩:=zhs I hr h2 rv z
   exact ⟨_,.list ho hc hd (by simpa using q)⟩
 | .cel m,v,u,p,r,ru,e=>by
  simp only [pdH] at e
  cases z0:h[m]? with
  | none=>rw [z0] at e;cases e
  | some c=>
   rw [z0] at e
   cases c with
   | dit ks=>cases e
   | ins _ _=>cases e
   | dead=>cases e
   | dic _=>cases e
   | lst ds=>
    obtain ⟨a,vs,rfl,hn,hH,rl⟩:=hr.read r z0
    cases ru
    obtain ⟨its,rv,pl,_⟩:=I.list (SqL.of hH)
    obtain ⟨o,ho,hc,n,hd⟩:=pl.isList
    cases z:pdL ds with
    | none=>simp only [z] at e;cases e
    | some ps=>
     simp only [z] at e;cases e
     obtain ⟨as,q⟩:=zgv I rl rv z
     exact ⟨_,.list ho hc hd (by simpa using q)⟩
 | .scr ds,_,_,_,_,_,e=>by simp only [pdH] at e;cases e
 | .set xs,_,_,_,_,_,e=>by simp only [pdH] at e;cases e
 | .dct,_,_,_,_,_,e=>by simp only [pdH] at e;cases e
 | .fn _,_,_,_,_,_,e=>by simp only [pdH] at e;cases e
 | .exn _,_,_,_,_,_,e=>by simp only [pdH] at e;cases e
theorem zhs {pins:List (Addr×Obj)} {σ:L2.St} {H:Hp} {s:Shared} {ι:Io} {h:Hh} (I:Inv X pins σ H s) (hr:zbb X.K ι H h): ∀ {ds:List D} {vs:List V} {us:List Value} {ps:List PyData},zas X.K ι H ds vs->zbm vs us->zjg h ds=some ps-> ∃ as,ReadsAll s.heap us ps as
 | [],vs,us,ps,r,ru,e=>by simp only [zas] at r;subst r;cases ru;simp only [zjg] at e;cases e;exact ⟨_,.nil⟩
 | d::ds,vs,us,ps,r,ru,e=>by
  simp only [zas] at r
  obtain ⟨v,vr,rfl,r1,r2⟩:=r
  cases ru with
  | cons ru1 ru2=>
   simp only [zjg] at e
   cases z:pdH h d with
   | none=>rw [z] at e;cases e
   | some a=>
    cases z2:zjg h ds with
    | none=>rw [z,z2] at e;cases e
    | some b=>
     rw [z,z2] at e
     cases e
     obtain ⟨as,q1⟩:=zkY I hr r1 ru1 z
     obtain ⟨bs,q2⟩:=zhs I hr r2 ru2 z2
     exact ⟨_,.cons q1 q2⟩
end
noncomputable def zrw (x y:D):M D:=fun h=>match pdH h x,pdH h y with
 | some a,some b=>if zf4 a b=true then .ok (.bl (PyData.eqv a b)) h else .bad
 | _,_=> .bad
theorem zpM (hu:X.A.units+60<cLine):OpR X (compareOp .Eq) (zc7 X.K E zrw):=by
 intro pins s σ H x y v u Q I rx ry ⟨ι,h,d1,d2,r1,r2,hr,q⟩
 unfold zrw at q
 cases e1:pdH h d1 with
 | none=>rw [e1] at q;exact qa0 q
 | some a=>
  cases e2:pdH h d2 with
  | none=>rw [e1,e2] at q;exact qa0 q
  | some b=>
   rw [e1,e2] at q
   dsimp only at q
   by_cases c:zf4 a b=true
   ·rw [qa4 c] at q
    obtain ⟨c1,c2,c3⟩:=zft c
    obtain ⟨as,ra⟩:=zkY I hr r1 rx e1
    obtain ⟨bs,rb⟩:=zkY I hr r2 ry e2
    exact SeqAt.compareEq_reads ra rb c1 c2 (by omega) ⟨.bl _,H,I,rfl,q ι H (zbA.refl _ _) hr (.bl _) (by simp [Rel])⟩
   ·rw [qa5 c] at q
    exact qa0 q
end
noncomputable abbrev FE:=Sd->M D
noncomputable abbrev FT:=Sd->M Bool
noncomputable abbrev FA:=Sd->M (List D)
noncomputable abbrev FS:=Sd->M Out
noncomputable def cOp (F:D->D->M D) (a b:FE):FE:=fun sd=>do let x<-a sd;let y<-b sd;F x y
noncomputable def cUn (F:D->M D) (a:FE):FE:=fun sd=>do let x<-a sd;F x
noncomputable def zaT (F:List D->M D) (a:FA):FE:=fun sd=>do let ds<-a sd;F ds
noncomputable def zdh (F:D->D->M D) (a b:FE):FT:=fun sd=>do let z<-(do let x<-a sd;let y<-b sd;F x y);zcR z
noncomputable def zhl (a:FE):FT:=fun sd=>do let x<-a sd;zcR x
noncomputable def zg2 (t:FT):FT:=fun sd=>do let c<-t sd;pure (!c)
noncomputable def zpT (t u:FT):FT:=fun sd=>do let c<-t sd;if c=true then u sd else pure false
noncomputable def tOr (t u:FT):FT:=fun sd=>do let c<-t sd;if c=true then pure true else u sd
noncomputable def zoL (a b:FE):FE:=fun sd=>do let c<-(do let x<-a sd;zcR x);if c=true then b sd else pure (.bl false)
noncomputable def cOr (a b:FE):FE:=fun sd=>do let c<-(do let x<-a sd;zcR x);if c=true then pure (.bl true) else b sd
noncomputable def zty (a:FE):FE:=fun sd=>do let c<-(do let x<-a sd;zcR x);pure (.bl (!c))
noncomputable def cIf (t:FT) (a b:FE):FE:=fun sd=>do let c<-t sd;if c=true then a sd else b sd
noncomputable def cK (d:D):FE:=fun _=>pure d
noncomputable def zav:FA:=fun _=>pure []
noncomputable def zac (a:FE) (r:FA):FA:=fun sd=>do let x<-a sd;let r<-r sd;pure (x::r)
noncomputable def zhK (fs:FA):FE:=fun sd=>do let ds<-fs sd;fits ds.length;pure (.tup ds)
noncomputable def zjd (fs:FA):FE:=fun sd=>do let ds<-fs sd;fits ds.length;pure (.lst ds)
noncomputable def zhn (fs:FA):FE:=fun sd=>do let ds<-fs sd;fits ds.length;zbn ds
noncomputable def zfh:FS:=fun sd=>pure (.nx sd)
noncomputable def zat (g g':FS):FS:=fun sd=>do let o<-g sd;andThen o g'
noncomputable def zbT (i:Nat) (f:FE):FS:=fun sd=>do let d<-f sd;pure (.nx (sd.set i (some d)))
noncomputable def zb5 (f:FE):FS:=fun sd=>do let d<-f sd;pure (.rt d)
noncomputable def sIf (t:FT) (g g':FS):FS:=fun sd=>do let c<-t sd;if c=true then g sd else g' sd
noncomputable def zjc (fi:FA) (g:D->Sd->M Sd) (gb:FS):FS:=fun sd=>do let ds<-fi sd;za1 (fun x sd=>do let sd1<-g x sd;gb sd1) ds sd
noncomputable def zjU (f:FE) (g:D->Sd->M Sd):FS:=fun sd=>do let d<-f sd;let sd'<-g d sd;pure (.nx sd')
noncomputable def ziE (f:FE):FS:=fun sd=>do let _<-f sd;pure (.nx sd)
noncomputable def iSq (f:FE):FA:=fun sd=>do let d<-f sd;zdx d
noncomputable def ze4 (fs:FA):FA:=fun sd=>do let ds<-fs sd;zht ds
noncomputable def zkl (fo fi:FE):D->Sd->M Sd:=fun d sd=>do let x<-fo sd;let y<-fi sd;zkJ x y d;pure sd
section
variable {X:Cx} {E:XE} {a b e c:Expr} {es:List Expr} {pos p p1 p2:Pos} {fa fb f:FE} {fs:FA} {x:Str}
theorem zab (i:Nat) (hN:X.N[i]? = some x:=by rfl) (hv:Vis X.env.scope x:=by first | exact Or.inl rfl | exact Or.inr (Or.inl rfl) | exact Or.inr (Or.inr rfl)) (hd:(x==("__debug__":Str))=false:=by decide) (hcd:(x==("__classdict__":Str))=false:=by decide):SE X E (.Name x pos) (zaf i):=zpY i hN hv hd hcd
theorem zaj {i:Int} {j:Nat}:SE X E (.Constant (.int i) j pos) (cK (.int i)):=zq0
theorem ziT {i:Bool} {j:Nat}:SE X E (.Constant (.bool i) j pos) (cK (.bl i)):=zs8
theorem zmp {j:Nat}:SE X E (.Constant .none j pos) (cK .non):=zq3
theorem zdy {i:Str} {j:Nat}:SE X E (.Constant (.str i) j pos) (cK (.str i)):=zpO
theorem zbo {op:Operator} {F:D->D->M D} (ho:OpR X (binaryOp op) (zc7 X.K E F)) (ha:SE X E a fa) (hb:SE X E b fb):SE X E (.BinOp a op b pos) (cOp F fa fb):=zsN ho ha hb
theorem zgW {op:CmpOp} {F:D->D->M D} (ho:OpR X (compareOp op) (zc7 X.K E F)) (ha:SE X E a fa) (hb:SE X E b fb) (hm:behindInMarks op b=false:=by rfl):SE X E (.Compare a [op] [b] pos) (cOp F fa fb):=zqV ho ha hb hm
theorem zaY {op:CmpOp} {F:D->D->M D} (ho:OpR X (compareOp op) (zc7 X.K E F)) (ha:SE X E a fa) (hb:SE X E b fb) (hm:behindInMarks op b=false:=by rfl):ST X E (.Compare a [op] [b] pos) (zdh F fa fb):=zrF ho ha hb hm
theorem zbd (ha:SE X E a fa) (hb:SE X E b fb) (hs:zhy b:=by intro _ _;rfl):SE X E (.Subscript a b pos) (cOp dIx fa fb):=zte zu0 ha hb hs
theorem ziR (ha:SE X E a fa):SE X E (.UnaryOp .USub a pos) (cUn zlF fa):=zqi ha
theorem ztI (ha:SE X E a fa):SE X E (.UnaryOp .Not a pos) (zty fa):=zsi ha
theorem zi3 {op:BoolOp} (h:SE X E a fa):SE X E (.BoolOp op [a] pos) fa:=zqP h
theorem zkt {rest:List Expr} (ha:SE X E a fa) (hb:SE X E (.BoolOp .And (b::rest) pos) fb):SE X E (.BoolOp .And (a::b::rest) pos) (zoL fa fb):=zsl ha hb
theorem zuH {rest:List Expr} (ha:SE X E a fa) (hb:SE X E (.BoolOp .Or (b::rest) pos) fb):SE X E (.BoolOp .Or (a::b::rest) pos) (cOr fa fb):=ztP ha hb
theorem zcy (h:SE X E e f) (he: ∀ whole,isTrue e X.env whole=(do let v<-whole;standAt e.pos;holding [v] (truthy v)):=by intro _;rfl):ST X E e (zhl f):=zqD h he
theorem zcN {t:FT} (ha:ST X E a t):ST X E (.UnaryOp .Not a pos) (zg2 t):=zqt ha
theorem zn0 {t:FT} (ha:ST X E a t):PW X (.BoolOp .And [a] pos) (ze3 X.K E t):=zps ha
theorem zd9 {t:FT} (ha:ST X E a t):PW X (.BoolOp .Or [a] pos) (ze3 X.K E t):=zrN ha
theorem zpX {rest:List Expr} {t u:FT} (ha:ST X E a t) (hb:PW X (.BoolOp .And (b::rest) pos) (ze3 X.K E u)):PW X (.BoolOp .And (a::b::rest) pos) (ze3 X.K E (zpT t u)):=zpV ha hb
theorem zeG {rest:List Expr} {t u:FT} (ha:ST X E a t) (hb:PW X (.BoolOp .Or (b::rest) pos) (ze3 X.K E u)):PW X (.BoolOp .Or (a::b::rest) pos) (ze3 X.K E (tOr t u)):=ztr ha hb
theorem zcI {op:BoolOp} {vs:List Expr} {t:FT} (h:PW X (.BoolOp op vs pos) (ze3 X.K E t)):ST X E (.BoolOp op vs pos) t:=zok h
theorem zoX {t:FT} (hc:ST X E c t) (ha:SE X E a fa) (hb:SE X E b fb):SE X E (.IfExp c a b pos) (cIf t fa fb):=zmy hc ha hb
theorem zkL {env:Env} (h: ∀ v p,e≠ .Starred v p):starEach (e::es) env=(false,eval e env)::starEach es env:=by
 cases e<;>first | rfl | exact absurd rfl (h _ _)
theorem zad:SA X E [] zav:=zpW
theorem zaa (ha:SE X E e fa) (hr:SA X E es fs) (hs:starEach (e::es) X.env=(false,eval e X.env)::starEach es X.env:=by exact zkL (fun _ _ z=>nomatch z)):SA X E (e::es) (zac fa fs):=znV ha hr hs
theorem zdW {k} (h:SA X E es fs):SE X E (.Tuple es k pos) (zhK fs):=zq2 h
theorem zeZ (h:SA X E es fs):SE X E (.List es pos) (zjd fs):=zsb h
theorem zgA (h:SA X E es fs):SE X E (.List es pos) (zhn fs):=zom h
theorem zaV {id:String} {F:List D->M D} (hc:zaZ X (.builtin id) (zhU X.K E F)) (hv:bootBuiltins x=some (.builtin id)) (hm:X.mg x=none) (ha:SA X E (e::es) fs) (hg:Gl X x:=by rfl) (hn:x≠"__name__":=by decide) (hdb:(x==("__debug__":Str))=false:=by decide)
  (he:starEach (e::es) X.env=(false,eval e X.env)::starEach es X.env:=by rfl) (hpl:(backTo pos (starEach es X.env)).any (·.1)=false:=by rfl):SE X E (.Call (.Name x p) (e::es) [] pos) (zaT F fs):=zlo hc hg hm hv ha hn hdb he hpl
theorem zbt {T:String} {F:List D->M D} (hc:zaZ X (.type T) (zhU X.K E F)) (hv:bootBuiltins x=some (.type T)) (hm:X.mg x=none) (ha:SA X E (e::es) fs) (hg:Gl X x:=by rfl) (hn:x≠"__name__":=by decide) (hdb:(x==("__debug__":Str))=false:=by decide)
  (he:starEach (e::es) X.env=(false,eval e X.env)::starEach es X.env:=by rfl) (hpl:(backTo pos (starEach es X.env)).any (·.1)=false:=by rfl):SE X E (.Call (.Name x p) (e::es) [] pos) (zaT F fs):=zkx hc hg hm hv ha hn hdb he hpl
theorem ziO {T:String} (hk:zi1 T) (hvT:bootBuiltins x=some (.type T)) (hm:X.mg "isinstance"=none) (hmT:X.mg x=none) (ha:SE X E a fa) (hg:Gl X "isinstance":=by rfl) (hgT:Gl X x:=by rfl)
  (hn:x≠"__name__":=by decide) (hd:(x==("__debug__":Str))=false:=by decide)
  (h1:starEach [a,.Name x p2] X.env=(false,eval a X.env)::starEach [.Name x p2] X.env:=by rfl) (h2:starEach [.Name x p2] X.env=[(false,eval (.Name x p2) X.env)]:=by rfl)
  (hpl:(backTo pos (starEach [.Name x p2] X.env)).any (·.1)=false:=by rfl):SE X E (.Call (.Name "isinstance" p1) [a,.Name x p2] [] pos) (cUn (zhk T) fa):=zpQ hk hg hm hgT hmT hvT ha hn hd h1 h2 hpl
theorem zga {pos2:Pos} (hc:X.calm=true) (hm1:X.mg "sorted"=none) (hm2:X.mg "set"=none) (he:SE X E e f) (hg1:Gl X "sorted":=by rfl) (hg2:Gl X "set":=by rfl)
  (h1:starEach [.Call (.Name "set" p2) [e] [] pos2] X.env=[(false,eval (.Call (.Name "set" p2) [e] [] pos2) X.env)]:=by rfl) (h2:starEach [e] X.env=[(false,eval e X.env)]:=by rfl):
  SE X E (.Call (.Name "sorted" p1) [.Call (.Name "set" p2) [e] [] pos2] [] pos) (cUn zbW f):=zi4 hc hg1 hm1 hg2 hm2 he h1 h2
theorem zaA {k:Nat} {g:Addr} {fd:FuncData} {ps:List Str} {n:Nat} {F:List D->M D} (G:zb6 X.prog X.w X.K X.mg X.base CX0 k g fd ps (zb9 X.K n F)) (hr:zdN k X.A) (hm:X.mg x=some (.ref g)) (hk:W.keepIn X.K (.ref g)=true) (hb:zaS X.K fd ps [])
  (ha:SA X E0x (e::es) fs) (hg:Gl X x:=by rfl) (hdb:(x==("__debug__":Str))=false:=by decide) (he:starEach (e::es) X.env=(false,eval e X.env)::starEach es X.env:=by rfl) (hpl:(backTo pos (starEach es X.env)).any (·.1)=false:=by rfl):
  SE X E0x (.Call (.Name x p) (e::es) [] pos) (zaT (zay n F) fs):=zo9 G hr hg hm hk hb ha hdb he hpl
theorem zbB:SSs X E [] zfh:=zqL
theorem zap {st:Stmt} {g:FS} (h1:SS X E st g):SSs X E [st] g:=zrO h1
theorem zag {st:Stmt} {rest:List Stmt} {g g':FS} (h1:SS X E st g) (h2:SSs X E rest g'):SSs X E (st::rest) (zat g g'):=zo3 h1 h2
theorem zaX (he:SE X E e f):SS X E (.Return (some e) pos) (zb5 f):=zsY he
theorem zf6 {ys ns:List Stmt} {t:FT} {g g':FS} (hc:ST X E c t) (ha:SSs X E ys g) (hb:SSs X E ns g'):SS X E (.If c ys ns pos) (sIf t g g'):=zus hc ha hb
theorem zh8 (he:SE X E e f) (hs:swapsWith e none pos.line X.env=pure false:=by rfl):SS X E (.Expr e pos) (ziE f):=zq4 he hs
theorem za0 (i:Nat) (hN:X.N.Nodup) (he:SE X E e f) (hi:X.N[i]? = some x:=by rfl) (hx:Loc X.env.scope x:=by first | exact Or.inl rfl | exact Or.inr rfl) (hf:X.fn x=true\/X.env.scope.names.lookup x=some .local:=by first | exact Or.inl rfl | exact Or.inr rfl)
  (hs:swapsWith e (some (.Name x p)) pos.line X.env=pure false:=by rfl):SS X E (.Assign [.Name x p] e pos) (zbT i f):=zsI i hN hi hx hf he hs
theorem zfq {tg:Expr} {g:D->Sd->M Sd} (he:SE X E e f) (hg:SG X E tg g) (hs:swapsWithSole [tg] e pos.line X.env=pure false:=by rfl) (hw:swappedStores [tg] e X.env=pure none:=by rfl)
  (h1:(assignEach [tg] X.env).map (·.2)=[assign tg X.env]:=by rfl):SS X E (.Assign [tg] e pos) (zjU f g):=zt2 he hg hs hw h1
theorem zal (i:Nat) (hN:X.N.Nodup) (hi:X.N[i]? = some x:=by rfl) (hx:Loc X.env.scope x:=by first | exact Or.inl rfl | exact Or.inr rfl) (hf:X.fn x=true\/X.env.scope.names.lookup x=some .local:=by first | exact Or.inl rfl | exact Or.inr rfl):SG X E (.Name x pos) (zaG i):=zo8 i hN hi hx hf
theorem zbu:SGs X E [] zbq:=zpc
theorem zaw {g:D->Sd->M Sd} {gs:List D->Sd->M Sd} (h1:SG X E e g) (h2:SGs X E es gs) (hs:(assignEach (e::es) X.env).map (·.2)=assign e X.env::(assignEach es X.env).map (·.2):=by rfl):SGs X E (e::es) (zar g gs):=zmt h1 h2 hs
theorem zcb {k n:Nat} {gs:List D->Sd->M Sd} (hc:X.calm=true) (h:SGs X E es gs) (hn:(assignEach es X.env).length=n:=by rfl) (hst:(assignEach es X.env).findIdx? (·.1)=none:=by rfl):SG X E (.Tuple es k pos) (zbp n gs):=zp8 hc h hn hst
theorem zj2 (ho:SE X E a fa) (hi:SE X E b fb) (ha: ∀ v,assign (.Subscript a b pos) X.env v=(do
      let ov<-holding [v] (eval a X.env)
      let iv<-holding [v,ov] (eval b X.env)
      standAt pos
      holding [v,ov,iv] (setItem ov iv v)
      release [v,ov,iv] []):=by intro _;rfl):SG X E (.Subscript a b pos) (zkl fa fb):=zry fun hs=>zqN ho hi hs ha
theorem zeh {tg:Expr} (he:SE X E e f):SI X E tg e (iSq f):=zrP he
theorem zdo {tg:Expr} (hm:X.mg "range"=none) (ha:SA X E [a] fs) (hg:Gl X "range":=by rfl) (hs:starEach [a] X.env=[(false,eval a X.env)]:=by rfl):SI X E tg (.Call (.Name "range" p) [a] [] pos) (ze4 fs):=znN hg hm ha hs
theorem ze8 {tg iter:Expr} {body:List Stmt} {fi:FA} {g:D->Sd->M Sd} {gb:FS} (hc:X.calm=true) (hp:PassesOwn (model X.prog X.w) X.A X.env X.xe) (hi:SI X E tg iter fi) (hg:SG X E tg g) (hb:SSs X E body gb)
  (hs: ∀ x,foldedSetIterable iter X.env x=pure x:=by intro _;rfl):SS X E (.For tg iter body [] pos) (zjc fi g gb):=ztZ hc hp hi hg hb hs
theorem zbJ:SCs X E [] (fun _=>pure true):=zqA
theorem zgg {t:FT} (h:ST X E c t):SCs X E [c] t:=zqJ h
theorem zbU {scope:Scope} {N:List Str} {src:List (Option Nat)} {tg iter elt:Expr} {ifs:List Expr} {fi:FA} {g:D->Sd->M Sd} {tc:FT} {te:FE} (hc:X.calm=true) (B:BOk X scope N src) (hk:zaC g src) (hi:SI X E tg iter fi)
  (hg: ∀ s H fp,SG (cxB X scope N s H fp) E tg g) (ht: ∀ s H fp,SCs (cxB X scope N s H fp) E ifs tc) (he: ∀ s H fp,SE (cxB X scope N s H fp) E elt te)
  (hs: ∀ x,foldedSetIterable iter X.env x=pure x:=by intro _;rfl):SE X E (.ListComp elt [⟨tg,iter,ifs,0⟩] scope pos) (zaK fi g tc te src):=zk3 B hk hi hg ht he hs
theorem zdL {scope:Scope} {N:List Str} {src:List (Option Nat)} {tg iter elt:Expr} {ifs:List Expr} {fi:FA} {g:D->Sd->M Sd} {tc:FT} {te:FE} (i:Nat) {y:Str} {py spos:Pos} (hc:X.calm=true) (hN:X.N.Nodup) (B:BOk X scope N src) (hk:zaC g src) (hi:SI X E tg iter fi)
  (hg: ∀ s H fp,SG (cxB X scope N s H fp) E tg g) (ht: ∀ s H fp,SCs (cxB X scope N s H fp) E ifs tc) (he: ∀ s H fp,SE (cxB X scope N s H fp) E elt te)
  (hy:X.N[i]? = some y:=by rfl) (hx:Loc X.env.scope y:=by first | exact Or.inl rfl | exact Or.inr rfl) (hf:X.fn y=true\/X.env.scope.names.lookup y=some .local:=by first | exact Or.inl rfl | exact Or.inr rfl) (hsw:swapsWith (.ListComp elt [⟨tg,iter,ifs,0⟩] scope pos) (some (.Name y py)) spos.line X.env=pure true:=by rfl)
  (hs: ∀ x,foldedSetIterable iter X.env x=pure x:=by intro _;rfl):SS X E (.Assign [.Name y py] (.ListComp elt [⟨tg,iter,ifs,0⟩] scope pos) spos) (zbT i (zaK fi g tc te src)):=zjV i B hk hi hg ht he hN hy hx hf hsw hs
end
theorem zbb.empty {K:W.Frag} {H:Hp}:zbb K ⟨[],[]⟩ H []:=⟨rfl,fun m n a h=>by simp at h,fun n a c h=>by simp at h,fun n h=>by simp at h,fun a h=>by cases h⟩
theorem zti {K:W.Frag} {F:List D->M D} {H:Hp} {a:Addr} {ns:List Int} (hS:SqL K H a (ns.map V.int)) (hm: ∃ h',F [.scr (ns.map D.int)] []= .ok (.bl true) h'):zb9 K 1 F [.ref a] H (fun v _=>v= .bl true) fun _ _ _=>False:=by
 obtain ⟨h',e⟩:=hm
 refine ⟨rfl,⟨[],[]⟩,[],[.scr (ns.map D.int)],zas.cons ?_ zas.nil,zbb.empty,?_⟩
 ·simp only [Rel]
  refine ⟨a,ns.map V.int,rfl,?_,zcV.mpr rfl⟩
  rcases hS with h | h
  ·exact .inl ⟨h,fun z=>by rcases z with z | z<;>cases z⟩
  ·exact .inr (.inr h)
 ·rw [e]
  intro ι1 H1 s hr v rv
  simpa [Rel] using rv
section
variable {sd:Sd} {a b:FE} {fs:FA} {t u:FT} {g g':FS} {F:D->D->M D}
@[simp] theorem zcs:cOp F a b sd=(do let x<-a sd;let y<-b sd;F x y):=rfl
@[simp] theorem zoQ {F:D->M D}:cUn F a sd=(do let x<-a sd;F x):=rfl
@[simp] theorem zbC {F:List D->M D}:zaT F fs sd=(do let ds<-fs sd;F ds):=rfl
@[simp] theorem zey:zdh F a b sd=(do let z<-(do let x<-a sd;let y<-b sd;F x y);zcR z):=rfl
@[simp] theorem zqp:zhl a sd=(do let x<-a sd;zcR x):=rfl
@[simp] theorem zqg:zg2 t sd=(do let c<-t sd;pure (!c)):=rfl
@[simp] theorem zsn:zpT t u sd=(do let c<-t sd;if c=true then u sd else pure false):=rfl
@[simp] theorem zsU:tOr t u sd=(do let c<-t sd;if c=true then pure true else u sd):=rfl
@[simp] theorem zmR:zoL a b sd=(do let c<-(do let x<-a sd;zcR x);if c=true then b sd else pure (.bl false)):=rfl
@[simp] theorem ztK:cOr a b sd=(do let c<-(do let x<-a sd;zcR x);if c=true then pure (.bl true) else b sd):=rfl
@[simp] theorem zm9:zty a sd=(do let c<-(do let x<-a sd;zcR x);pure (.bl (!c))):=rfl
@[simp] theorem ztJ:cIf t a b sd=(do let c<-t sd;if c=true then a sd else b sd):=rfl
@[simp] theorem zfa {d:D}:cK d sd=pure d:=rfl
@[simp] theorem za2:zav sd=pure []:=rfl
@[simp] theorem zaI:zac a fs sd=(do let x<-a sd;let r<-fs sd;pure (x::r)):=rfl
@[simp] theorem zgi:zhK fs sd=(do let ds<-fs sd;fits ds.length;pure (.tup ds)):=rfl
@[simp] theorem zh2:zjd fs sd=(do let ds<-fs sd;fits ds.length;pure (.lst ds)):=rfl
@[simp] theorem zfU:zhn fs sd=(do let ds<-fs sd;fits ds.length;zbn ds):=rfl
@[simp] theorem zgP:zfh sd=pure (.nx sd):=rfl
@[simp] theorem zbg:zat g g' sd=(do let o<-g sd;andThen o g'):=rfl
@[simp] theorem zcM {i:Nat}:zbT i a sd=(do let d<-a sd;pure (.nx (sd.set i (some d)))):=rfl
@[simp] theorem zda:zb5 a sd=(do let d<-a sd;pure (.rt d)):=rfl
@[simp] theorem zkO:sIf t g g' sd=(do let c<-t sd;if c=true then g sd else g' sd):=rfl
@[simp] theorem zjD {fi:FA} {gt:D->Sd->M Sd}:zjc fi gt g sd=(do let ds<-fi sd;za1 (fun x sd=>do let sd1<-gt x sd;g sd1) ds sd):=rfl
@[simp] theorem zib {gt:D->Sd->M Sd}:zjU a gt sd=(do let d<-a sd;let sd'<-gt d sd;pure (.nx sd')):=rfl
@[simp] theorem zhE:ziE a sd=(do let _<-a sd;pure (.nx sd)):=rfl
@[simp] theorem zqK:iSq a sd=(do let d<-a sd;zdx d):=rfl
@[simp] theorem zgJ:ze4 fs sd=(do let ds<-fs sd;zht ds):=rfl
@[simp] theorem zhB {d:D}:zkl a b d sd=(do let x<-a sd;let y<-b sd;zkJ x y d;pure sd):=rfl
@[simp] theorem zdG {i:Nat} {d:D}:zaG i d sd=pure (sd.set i (some d)):=rfl
@[simp] theorem zf8:andThen (.nx sd) g=g sd:=rfl
@[simp] theorem zsE {d:D}:andThen (.rt d) g=pure (.rt d):=rfl
@[simp] theorem ztX:zc3 (.nx sd)=pure .non:=rfl
@[simp] theorem zfK {d:D}:zc3 (.rt d)=pure d:=rfl
@[simp] theorem zea {c:Bool}:zcR (.bl c)=pure c:=rfl
@[simp] theorem ztV {lo hi:Sd->M (Option Int)}:cSl a lo hi sd=(do let d<-a sd;let l<-lo sd;let u<-hi sd;dSl d l u):=rfl
@[simp] theorem znQ:ztt sd=pure none:=rfl
@[simp] theorem zoU:zt0 a sd=(do let d<-a sd;znS d):=rfl
@[simp] theorem zq7 {i:Int}:znS (.int i)=pure (some i):=rfl
@[simp] theorem zt3 {ds:List D} {lo hi:Option Int}:dSl (.tup ds) lo hi=pure (.tup (ztY ds lo hi)):=rfl
@[simp] theorem zs4 {ds:List D}:zuD (.tup ds)=pure (.tup ds.reverse):=rfl
@[simp] theorem ztA {i:Int}:zlF (.int i)=pure (.int (-i)):=rfl
@[simp] theorem zc9 {i j:Int}:zdK (.int i) (.int j)=pure (.int (i+j)):=rfl
@[simp] theorem zmW {xs ys:List D}:zdK (.tup xs) (.tup ys)=(do fits (xs.length+ys.length);pure (.tup (xs++ys))):=rfl
@[simp] theorem zm0 {xs ys:List D}:zdK (.lst xs) (.lst ys)=(do fits (xs.length+ys.length);pure (.lst (xs++ys))):=rfl
@[simp] theorem znD {i j:Int}:zpF (.int i) (.int j)=pure (.int (i - j)):=rfl
@[simp] theorem ztm {i j:Int}:zt4 (.int i) (.int j)=pure (.int (Builtin.bitAnd i j)):=rfl
@[simp] theorem zpH {i j:Int}:dLt (.int i) (.int j)=pure (.bl (decide (i<j))):=rfl
@[simp] theorem zux {i j:Int}:dGt (.int i) (.int j)=pure (.bl (decide (j<i))):=rfl
@[simp] theorem zuc {i j:Int}:dGe (.int i) (.int j)=pure (.bl (decide (j<=i))):=rfl
@[simp] theorem zrH {ds:List D}:zeW [.tup ds]=pure (.int ds.length):=rfl
@[simp] theorem zkT {ds:List D}:zeW [.lst ds]=pure (.int ds.length):=rfl
@[simp] theorem zmT {ds:List D}:zeW [.scr ds]=pure (.int ds.length):=rfl
@[simp] theorem zr3 {ds:List D}:zcK [.tup ds]=pure (.tup ds):=rfl
@[simp] theorem zgb {ds:List D}:zcK [.lst ds]=pure (.tup ds):=rfl
@[simp] theorem zp0 {ds:List D}:ztU [.tup ds]=pure (.lst ds):=rfl
@[simp] theorem ztH {ds:List D}:zdx (.tup ds)=pure ds:=rfl
@[simp] theorem zrm {ds:List D}:zdx (.lst ds)=pure ds:=rfl
@[simp] theorem zpy {F:List D->M D} {x:D}:zay 1 F [x]=F [x]:=rfl
@[simp] theorem zbD {F:List D->M D} {x y:D}:zay 2 F [x,y]=F [x,y]:=rfl
@[simp] theorem zoF {F:List D->M D} {x y z:D}:zay 3 F [x,y,z]=F [x,y,z]:=rfl
@[simp] theorem zdq {body:D->Sd->M Out}:za1 body [] sd=pure (.nx sd):=rfl
theorem zcj {body:D->Sd->M Out} {x:D} {r:List D}:za1 body (x::r) sd=(do let o<-body x sd;match o with | .nx sd'=>za1 body r sd' | .ct sd'=>za1 body r sd' | .bk sd'=>pure (.nx sd') | .rt d=>pure (.rt d)):=rfl
@[simp] theorem zjk {gs:List D->Sd->M Sd} {x y:D}:zbp 2 gs (.tup [x,y]) sd=gs [x,y] sd:=rfl
@[simp] theorem zk7:zbq [] sd=pure sd:=rfl
@[simp] theorem zif {gt:D->Sd->M Sd} {gs:List D->Sd->M Sd} {x:D} {r:List D}:zar gt gs (x::r) sd=(do let sd1<-gt x sd;gs r sd1):=rfl
@[simp] theorem zkn {n:Nat} {k:Int} {d:D}:zkJ (.cel n) (.int k) d=(do let ds<-zao n;let j<-ofO (ixN ds.length k);zbE n (ds.set j d)):=rfl
@[simp] theorem zsO {ds:List D} {i:Int}:dIx (.tup ds) (.int i)=ofO (atI ds i):=rfl
@[simp] theorem zeP {ds:List D} {i:Int}:dIx (.lst ds) (.int i)=ofO (atI ds i):=rfl
@[simp] theorem zth {ds:List D} {i:Int}:dIx (.scr ds) (.int i)=ofO (atI ds i):=rfl
@[simp] theorem ziB {n:Nat} {i:Int}:dIx (.cel n) (.int i)=(do let ds<-zao n;ofO (atI ds i)):=rfl
@[simp] theorem ze5 {α:Type} {x:α}:ofO (some x)=pure x:=rfl
@[simp] theorem zkf {x:D} {r:List D}:atI (x::r) 0=some x:=by unfold atI ixN;simp
@[simp] theorem zqZ {x y:D} {r:List D}:atI (x::y::r) 1=some y:=by
 have:=zfw (xs:=x::y::r) (j:=1) (v:=y) rfl
 simpa using this
end
theorem zaJ {n:Nat} (h:n<=1000):fits n=pure ():=by
 unfold fits
 rw [qa4 (qaS h (by decide))]
theorem zii {i j:Int} (h:(zbk i || zbk j)=true):zje (.int i) (.int j)=pure (.int (i*j)):=by
 show (if (zbk i || zbk j)=true then _ else _)=_
 rw [qa4 h]
theorem zhY {i:Int} (h: -1000000000000000<i) (h':i<1000000000000000):zbk i=true:=by unfold zbk;simp;omega
theorem zg0 {i j:Int} (h: -1000000000000000<i) (h':i<1000000000000000):zje (.int i) (.int j)=pure (.int (i*j)):=zii (by rw [zhY h h'];rfl)
theorem zmZ {i j:Int} (h: -1000000000000000<j) (h':j<1000000000000000):zje (.int i) (.int j)=pure (.int (i*j)):=zii (by rw [zhY h h'];simp)
theorem zcW {i j:Int} (h:0<j):zl0 (.int i) (.int j)=pure (.int (i % j)):=by
 show (if (decide (0<j))=true then _ else _)=_
 rw [qa4 (by simpa using h)]
theorem ziv {i j:Int} (h:0<j) (h':j<2^64):zma (.int i) (.int j)=pure (.int (i / j)):=by
 show (if (decide (0<j) && decide (j<2^64))=true then _ else _)=_
 rw [qa4 (by rw [qaG];exact ⟨by simpa using h,by simpa using h'⟩)]
theorem zn6 {i j:Int}:dEq (.int i) (.int j)=pure (.bl (i==j)):=by
 unfold dEq zja
 simp only [pd]
 rw [qa4 (show zf4 (.int i) (.int j)=true from rfl)]
 rfl
theorem zrx {i j:Int}:dNe (.int i) (.int j)=pure (.bl (!(i==j))):=by
 unfold dNe zja
 simp only [pd]
 rw [qa4 (show zf4 (.int i) (.int j)=true from rfl)]
 rfl
def wp {α:Type} (m:M α) (h:Hh) (P:α->Hh->Prop):Prop:= ∃ a h',m h= .ok a h'/\P a h'
section
variable {α β:Type} {h:Hh} {P P':α->Hh->Prop}
theorem zan {a:α}:wp (pure a:M α) h P↔P a h:=⟨fun ⟨b,h',e,q⟩=>by cases (show R.ok a h=R.ok b h' from e);exact q,fun q=>⟨a,h,rfl,q⟩⟩
theorem zam {m:M β} {f:β->M α}:wp (m>>=f) h P↔wp m h fun b h'=>wp (f b) h' P:=by
 constructor
 ·rintro ⟨a,h',e,q⟩
  have e:M.bind m f h= .ok a h':=e
  unfold M.bind at e
  cases z:m h with
  | ok b h1=>rw [z] at e;exact ⟨b,h1,z,a,h',e,q⟩
  | exc c h1=>rw [z] at e;cases e
  | bad=>rw [z] at e;cases e
 ·rintro ⟨b,h1,e,a,h',e2,q⟩
  refine ⟨a,h',?_,q⟩
  show M.bind m f h=_
  unfold M.bind
  rw [e]
  exact e2
theorem zfr {m:M α} (q:wp m h P) (k: ∀ a h',P a h'->P' a h'):wp m h P':=by
 obtain ⟨a,h',e,q⟩:=q
 exact ⟨a,h',e,k _ _ q⟩
theorem zbV {n:Nat} {ds:List D} {P:List D->Hh->Prop} (e:h[n]? = some (.lst ds)):wp (zao n) h P↔P ds h:=by
 unfold wp zao
 rw [e]
 exact ⟨fun ⟨b,h',e,q⟩=>by cases e;exact q,fun q=>⟨_,_,rfl,q⟩⟩
theorem zfi {n:Nat} {ds:List D} {P:Unit->Hh->Prop}:wp (zbE n ds) h P↔P () (h.set n (.lst ds)):=⟨fun ⟨b,h',e,q⟩=>by cases (show R.ok () (h.set n (.lst ds))=R.ok b h' from e);exact q,fun q=>⟨_,_,rfl,q⟩⟩
theorem zij {ds:List D} {P:D->Hh->Prop}:wp (zbn ds) h P↔P (.cel h.length) (h++[.lst ds]):=⟨fun ⟨b,h',e,q⟩=>by cases (show R.ok (D.cel h.length) (h++[C.lst ds])=R.ok b h' from e);exact q,fun q=>⟨_,_,rfl,q⟩⟩
end
theorem zdZ {f:D->M (Option D)} {k:D->Option D}: ∀ {ds:List D},(∀ x∈ds,f x=pure (k x))->zbj f ds=pure (ds.filterMap k)
 | [],_=>rfl
 | x::r,hf=>by
  rw [zbj,hf x qau,zdZ fun y hy=>hf y (qan _ hy)]
  simp only [pure_bind]
  cases e:k x<;>simp [qat,e]
theorem zcY {fi:FA} {g:D->Sd->M Sd} {tc:FT} {te:FE} {src:List (Option Nat)} {sd:Sd} {ds:List D} {k:D->Option D} (hi:fi sd=pure ds) (hl:ds.length<=1000) (hf: ∀ x∈ds,zbc g tc te (zak src sd) x=pure (k x)):zaK fi g tc te src sd=pure (.lst (ds.filterMap k)):=by
 unfold zaK
 rw [hi]
 simp only [pure_bind]
 rw [zaJ hl]
 simp only [pure_bind]
 rw [zdZ hf]
 simp only [pure_bind]
theorem zgc {fi:FA} {g:D->Sd->M Sd} {tc:FT} {te:FE} {src:List (Option Nat)} {sd:Sd} {ds:List D} {k:D->D} (hi:fi sd=pure ds) (hl:ds.length<=1000) (hf: ∀ x∈ds,zbc g tc te (zak src sd) x=pure (some (k x))):zaK fi g tc te src sd=pure (.lst (ds.map k)):=by
 rw [zcY (k:=fun x=>some (k x)) hi hl hf]
 simp
theorem zhV: ∀ bs:List Bool,zlp (bs.map D.bl)=some bs
 | []=>rfl
 | b::r=>by rw [qaM,zlp,zhV r];rfl
theorem zbY: ∀ bs:List Int,zdU (bs.map D.int)=some bs
 | []=>rfl
 | b::r=>by rw [qaM,zdU,zbY r];rfl
theorem zk4 (bs:List Bool):zsG [.lst (bs.map D.bl)]=pure (.bl (bs.all id)):=by
 show (do let bs<-ofO (zlp (bs.map D.bl));pure (.bl (bs.all id)):M D)=_
 rw [zhV]
 rfl
theorem zlc {d:D} {xs:List Int} (e:znj d=pure (xs.map D.int)) (h:(xs.foldl step_dedup []).length<64) (h2:xs.length<4000):zbW d=pure (.lst ((zeV xs).map D.int)):=by
 unfold zbW
 rw [e]
 show (do let ns<-ofO (zdU (xs.map D.int));if (ns.foldl step_dedup []).length<64/\ns.length<4000 then pure (.lst ((zeV ns).map D.int)) else M.bad:M D)=_
 rw [zbY]
 show (if (xs.foldl step_dedup []).length<64/\xs.length<4000 then (pure (.lst ((zeV xs).map D.int)):M D) else M.bad)=_
 rw [qa4 ⟨h,h2⟩]
theorem zgu {xs:List Int} (h:xs.length<64):zbW (.lst (xs.map D.int))=pure (.lst ((zeV xs).map D.int)):=zlc rfl (Nat.lt_of_le_of_lt (zkQ xs) h) (by omega)
theorem ziI {xs:List Int} (h:xs.length<64):zhF [.tup (xs.map D.int)]=pure (.lst ((zb7 xs).map D.int)):=by
 show (do let ns<-ofO (zdU (xs.map D.int));if ns.length<64 then pure (.lst ((zb7 ns).map D.int)) else M.bad:M D)=_
 rw [zbY]
 show (if xs.length<64 then (pure (.lst ((zb7 xs).map D.int)):M D) else M.bad)=_
 rw [qa4 h]
noncomputable def kn:D->Bool
 | .non | .bl _ | .int _ | .str _ | .tup _ | .lst _ | .dct=>true
 | _=>false
noncomputable def isT:D->Bool
 | .tup _=>true
 | _=>false
noncomputable def isI:D->Bool
 | .int _=>true
 | _=>false
theorem ziq {d:D} (k:kn d=true):zhk "tuple" d=pure (.bl (isT d)):=by
 cases d<;>simp [kn] at k<;>simp [zhk,tyD,isB,isT]
theorem zpu {d:D} (k:kn d=true):zhk "int" d=pure (.bl (isI d || (match d with | .bl _=>true | _=>false))):=by
 cases d<;>simp [kn] at k<;>simp [zhk,tyD,isB,isI]
theorem zqd {d:D} (k:kn d=true):zhk "bool" d=pure (.bl (match d with | .bl _=>true | _=>false)):=by
 cases d<;>simp [kn] at k<;>simp [zhk,tyD,isB,isI]
mutual
noncomputable def zjY:D->Bool
 | .non | .bl _ | .int _=>true
 | .str x=>PyData.strOk x
 | .tup ds=>decide (ds.length<64) && zhb ds
 | .lst ds=>decide (ds.length<64) && zhb ds
 | _=>false
noncomputable def zhb:List D->Bool
 | []=>true
 | d::r=>zjY d && zhb r
end
mutual
theorem znG: ∀ {d:D},zjY d=true-> ∃ p,pd d=some p/\p.canLay0=true
 | .non,_=>⟨.none,rfl,rfl⟩
 | .bl b,_=>⟨.bool b,rfl,rfl⟩
 | .int i,_=>⟨.int i,rfl,rfl⟩
 | .str x,g=>⟨.str x,rfl,by simpa [zjY,PyData.canLay0] using g⟩
 | .tup ds,g=>by
  have g2:zhb ds=true:=by simp [zjY] at g;exact g.2
  obtain ⟨ps,e,c⟩:=zfs g2
  exact ⟨.tuple ps,by unfold pd;rw [e];rfl,c⟩
 | .lst ds,g=>by
  have g2:zhb ds=true:=by simp [zjY] at g;exact g.2
  obtain ⟨ps,e,c⟩:=zfs g2
  exact ⟨.list ps,by unfold pd;rw [e];rfl,c⟩
 | .cel _,g=>by simp [zjY] at g
 | .set _,g=>by simp [zjY] at g
 | .dct,g=>by simp [zjY] at g
 | .fn _,g=>by simp [zjY] at g
 | .scr _,g=>by simp [zjY] at g
 | .exn _,g=>by simp [zjY] at g
theorem zfs: ∀ {ds:List D},zhb ds=true-> ∃ ps,pdL ds=some ps/\PyData.canLayAll0 ps=true
 | [],_=>⟨[],rfl,rfl⟩
 | d::r,g=>by
  simp [zhb] at g
  obtain ⟨p,e,c⟩:=znG g.1
  obtain ⟨ps,e2,c2⟩:=zfs g.2
  exact ⟨p::ps,by unfold pdL;rw [e,e2],by simp [PyData.canLayAll0,c,c2]⟩
end
theorem zep: ∀ xs:List Int,pdL (xs.map D.int)=some (xs.map PyData.int)
 | []=>rfl
 | x::r=>by rw [qaM,pdL,zep r];rfl
theorem zbH: ∀ xs:List Int,PyData.canLayAll0 (xs.map PyData.int)=true
 | []=>rfl
 | x::r=>by simp [PyData.canLayAll0,PyData.canLay0,zbH r]
theorem zcz: ∀ xs:List Int,PyData.depthAll (xs.map PyData.int)=0
 | []=>rfl
 | x::r=>by simp [PyData.depthAll,PyData.depth,zcz r]
theorem zfD: ∀ xs ys:List Int,PyData.eqvAll (xs.map PyData.int) (ys.map PyData.int)=(xs==ys)
 | [],[]=>rfl
 | [],_::_=>rfl
 | _::_,[]=>rfl
 | x::xs,y::ys=>by
  simp only [qaM,PyData.eqvAll,PyData.eqv,zfD xs ys]
  rfl
theorem zhZ (k:Int): ∀ xs:List Int,((xs.map PyData.int).any fun y=>PyData.eqv y (.int k))=xs.any (· == k)
 | []=>rfl
 | x::r=>by simp only [qaM,List.any_cons,zhZ k r];rfl
theorem zds (k:Int) (xs:List Int):dIn (.int k) (.tup (xs.map D.int))=pure (.bl (xs.any (· == k))):=by
 show zrl false (.int k) (.tup (xs.map D.int))=_
 unfold zrl
 simp only [pd]
 rw [zep]
 have c:zpw (.int k) (xs.map PyData.int)=true:=by
  unfold zpw
  simp [PyData.canLay0,zbH,PyData.depth,zcz]
 simp only [c,if_true,zhZ]
 rfl
end L3
namespace L2
open PySem PySem.Spec PyProof.Rows LT
section
variable {X:Cx}
end
end L2
namespace L3
open PySem PySem.Spec PyProof.Rows L2 LT
section
variable {X:Cx} {E:XE} {a b c o e:Expr} {pos apos cpos:Pos} {fa fb fc fo fe:FE}
noncomputable def zd7:D->M Unit
 | .cel n=>do let _<-zao n;pure ()
 | _=>M.bad
noncomputable def zdk (x y:D):M D:=match x with
 | .cel n=>do
  let ds<-zao n
  fits (ds.length+1)
  zbE n (ds++[y])
  pure .non
 | _=>M.bad
noncomputable def zeL (fo fe:FE):FE:=fun sd=>do
 let x<-fo sd
 zd7 x
 let y<-fe sd
 zdk x y
theorem zfY {α:Type} {K:W.Frag} {ι:Io} {H:Hp} {h:Hh} {n:Nat} {f:List D->M α} {P:α->Io->Hp->Prop} (q:Fin K E ι H ((zao n>>=f) h) P): ∃ ds,h[n]? = some (.lst ds)/\Fin K E ι H (f ds h) P:=by
 have q':Fin K E ι H (M.bind (zao n) f h) P:=q
 unfold M.bind at q'
 cases z:zao n h with
 | bad=>rw [z] at q';exact qa0 q'
 | exc c h'=>unfold zao at z;split at z<;>cases z
 | ok ds h'=>
  rw [z] at q'
  obtain ⟨rfl,z2⟩:=zcv z
  exact ⟨ds,z2,q'⟩
theorem zh1 (ho:SE X E o fo) (he:SE X E e fe)
  (hbase:attributeBase o "append" X.env (eval o X.env)=eval o X.env:=by rfl)
  (hfew:((backTo cpos (starEach [e] X.env)).all (fun x=> !x.1) && (backToKw cpos (keywordEach [] X.env)).all (fun x=>x.1.isSome)
    && decide (([e]:List Expr).length+([]:List Keyword).length+(if ([]:List Keyword).isEmpty then 0 else 1)<30))=true:=by rfl)
  (hline:(apos.endLine==cpos.line)=true:=by rfl) (hs:starEach [e] X.env=(false,eval e X.env)::starEach [] X.env:=by rfl) (hplain:(backTo cpos (starEach [] X.env)).any (·.1)=false:=by rfl):
  SE X E (.Call (.Attribute o "append" apos) [e] [] cpos) (zeL fo fe):=by
 refine PE.imp (zlQ PySem.F.plainAttrs_list PySem.F.slot_list_append PySem.F.type_list_append zgO ho (zbs he zcU hs) hbase hfew hline hs hplain) fun σ H Q ⟨ι,h,sd,L,hh,q⟩=>⟨ι,h,sd,L,hh,Fin.bind q fun d h1 ι1 H1 e1 s1 hr1 q1 v rv=> ?_⟩
 cases d with
 | cel n=>
  have q2:Fin X.K E ι1 H1 ((zao n>>=fun _=>fe sd>>=fun y=>zdk (.cel n) y) h1) (fun d ι' H'=> ∀ v,Rel X.K ι' H' d v->Q v H'):=by
   have ee:(zd7 (.cel n)>>=fun _=>fe sd>>=fun y=>zdk (.cel n) y:M D)=(zao n>>=fun _=>fe sd>>=fun y=>zdk (.cel n) y):=by
    show ((zao n>>=fun _=>pure ())>>=fun _=>fe sd>>=fun y=>zdk (.cel n) y)=_
    simp only [bind_assoc,pure_bind]
   rw [<- ee]
   exact q1
  obtain ⟨ds,e2,q3⟩:=zfY q2
  obtain ⟨a,vs,rfl,hn,hH,rl⟩:=hr1.read rv e2
  refine ⟨.inl ⟨rfl,vs,SqL.of hH⟩,ι1,h1,sd,L.step s1,hr1,Fin.bind q3 fun y h3 ι3 H3 e3 s3 hr3 q4 w rw'=> ?_⟩
  have rv3:=rv.step s3
  have q5:Fin X.K E ι3 H3 ((zao n>>=fun ds=>fits (ds.length+1)>>=fun _=>zbE n (ds++[y])>>=fun _=>pure D.non) h3) (fun d ι' H'=> ∀ v,Rel X.K ι' H' d v->Q v H'):=q4
  obtain ⟨ds3,e4,q6⟩:=zfY q5
  obtain ⟨a3,vs3,ea,hn3,hH3,rl3⟩:=hr3.read rv3 e4
  cases ea
  obtain ⟨z,q7⟩:=Fin.fits q6
  refine ⟨a,vs3,w,rfl,rfl,hH3,by rw [<- rl3.length];omega,?_⟩
  have q8:Fin X.K E ι3 H3 (R.ok D.non (h3.set n (.lst (ds3++[y])))) (fun d ι' H'=> ∀ v,Rel X.K ι' H' d v->Q v H'):=q7
  exact q8 ι3 _ (hr3.cellS hn3) (hr3.cell hn3 (rl3.append (zas.cons rw' zas.nil))) _ (by simp [Rel])
 | _=>exact qa0 q1
end
end L3
namespace Att
open PySem PySem.W PySem.Calls PyProof.Rows
end Att
namespace L2
open PySem PySem.Spec PyProof.Rows
end L2
namespace L3
open PySem PySem.Spec PyProof.Rows L2 LT
section
variable {X:Cx} {E:XE}
noncomputable def ziM (i j:Int):Bool:=decide (Builtin.Int.intBits i+Builtin.Int.intBits j<=2^26)
theorem zkP {i j:Int} (h:ziM i j=true):IntMulOk i j:=by
 unfold ziM at h
 rw [qaD] at h
 unfold IntMulOk
 intro z
 rw [qaG] at z
 have z2:=z.2
 unfold Builtin.Int.intTooBig at z2
 have hb:bitsLine=2^27:=rfl
 rw [qaD,hb] at z2
 omega
theorem zog:OpR X (binaryOp .Mult) (rI (fun i j=>IntMulOk i j) fun i j=> .int (i*j)):=opI fun _ _ _ _ _ _ _ hc q=>mul_int q hc
noncomputable def zed:=dII (fun i j=>zbk i || zbk j || ziM i j) fun i j=> .int (i*j)
theorem zcC:OpR X (binaryOp .Mult) (zc7 X.K E zed):=zhP (zog) (fun i j h=>by
  rw [Bool.or_eq_true] at h
  rcases h with h | h
  · rcases (Bool.or_eq_true _ _).mp h with z | z
    · have:=zcG z
      exact IntMulOk.of_left (intBits_le_64 this.1 this.2)
    · have:=zcG z
      exact IntMulOk.of_right (intBits_le_64 this.1 this.2)
  · exact zkP h) fun _ _ _ _=>by simp [Rel]
end
end L3
namespace PySem
open Sem (wp)
open AutoSeq1 (wpAny_loadPart')
section
variable {prog:Program} {w:World} {A:Around} {E:Value->Shared->Prop} {s:Shared}
end
end PySem
namespace L2
open PySem PySem.Spec PyProof.Rows LT
section
variable {X:Cx}
end
end L2
namespace L3
open PySem PySem.Spec PyProof.Rows L2 LT
section
variable {X:Cx} {E:XE} {e:Expr} {f:FE}
end
@[simp] theorem zaE {d:D} {r:Sd}:zaf 0 (some d::r)=pure d:=rfl
@[simp] theorem zaL {n:Nat} {x:Option D} {r:Sd}:zaf (n+1) (x::r)=zaf n r:=rfl
noncomputable def zdB (m:Int):Int->List D->Bool
 | _,[]=>true
 | l,.int i::r=>decide (l<=i) && decide (i<m) && zdB m (i+1) r
 | _,_::_=>false
theorem zbK {m:Int}: ∀ {xs:List Int} {l:Int},zdB m l (xs.map D.int)=true↔xs.Pairwise (· < ·)/\ ∀ x∈xs,l<=x/\x<m
 | [],l=>by simp [zdB]
 | x::r,l=>by
  rw [qaM,zdB,qaG,qaG,zbK (xs:=r) (l:=x+1),qay]
  simp only [qaD,qaP,forall_eq_or_imp]
  constructor
  ·rintro ⟨⟨h1,h2⟩,h3,h4⟩
   refine ⟨⟨fun y hy=> ?_,h3⟩,⟨h1,h2⟩,fun y hy=> ?_⟩
   ·have:=(h4 y hy).1;omega
   ·have:=h4 y hy;omega
  ·rintro ⟨⟨h1,h2⟩,⟨h3,h4⟩,h5⟩
   refine ⟨⟨h3,h4⟩,h2,fun y hy=> ?_⟩
   have a1:=h1 y hy
   have a2:=h5 y hy
   omega
theorem zfS {m:Int}: ∀ {ts:List D} {l:Int},zdB m l ts=true->ts.all isI=true
 | [],_,_=>rfl
 | d::r,l,h=>by
  cases d<;>first
   | (simp [zdB] at h;done)
   | (rw [zdB,qaG] at h;rw [List.all_cons,zfS h.2];rfl)
theorem zhH: ∀ {ts:List D},ts.all isI=true-> ∃ xs:List Int,ts=xs.map D.int
 | [],_=>⟨[],rfl⟩
 | d::r,h=>by
  rw [List.all_cons,qaG] at h
  obtain ⟨xs,e⟩:=zhH h.2
  cases d<;>first
   | (simp [isI] at h;done)
   | (rename_i i;exact ⟨i::xs,by rw [e];rfl⟩)
theorem zek {m:Int}: ∀ {ts:List D} {l:Int},zdB m l ts=true->l<=m->(ts.length:Int)<=m - l
 | [],l,_,h=>by simp;omega
 | d::r,l,h,hl=>by
  cases d<;>first
   | (simp [zdB] at h;done)
   | (rename_i i
      rw [zdB,qaG,qaG,qaD,qaD] at h
      have:=zek h.2 (by omega)
      simp
      omega)
def Bx (b:Nat) (h:Hh):Prop:= ∃ z:Int,h[b]? = some (.lst [.int z])
def Ext (b:Nat) (h h':Hh):Prop:=Bx b h'/\ ∀ (n:Nat) (c:C),n≠b->h[n]? = some c->h'[n]? = some c
theorem Ext.refl {b:Nat} {h:Hh} (q:Bx b h):Ext b h h:=⟨q,fun _ _ _ e=>e⟩
theorem Ext.trans {b:Nat} {h h1 h2:Hh} (p:Ext b h h1) (q:Ext b h1 h2):Ext b h h2:=⟨q.1,fun n c hn e=>q.2 n c hn (p.2 n c hn e)⟩
theorem Bx.set {b:Nat} {h:Hh} {z:Int} (q:Bx b h):Ext b h (h.set b (.lst [.int z])):=by
 obtain ⟨y,e⟩:=q
 have hl:=(qac.mp e).1
 exact ⟨⟨z,qai hl⟩,fun n c hn e=>by rw [qao (Ne.symm hn)];exact e⟩
theorem Bx.push {b:Nat} {h:Hh} {c:C} (q:Bx b h):Ext b h (h++[c]):=by
 obtain ⟨y,e⟩:=q
 have hl:=(qac.mp e).1
 refine ⟨⟨y,by rw [qad hl];exact e⟩,fun n c' hn e=> ?_⟩
 rw [qad (qac.mp e).1]
 exact e
theorem zdg {j:Int} (h0:0<=j) (h:j<1000):zht [.int j]=pure (zd6 0 j.toNat):=by
 show (if zcE j=true then _ else _)=_
 rw [qa4 (by unfold zcE;simp;omega)]
theorem zfx {n:Nat} {d:D} (h:d∈zd6 0 n): ∃ i:Int,d= .int i/\0<=i/\i<n:=by
 unfold zd6 at h
 obtain ⟨k,hk,e⟩:=qaU.mp h
 have:=List.mem_range.mp hk
 exact ⟨0+(k:Int),e.symm,by omega,by omega⟩
theorem zfC {n:Nat}:(zd6 0 n).length=n:=by unfold zd6;simp
theorem zfz (n:Nat):zd6 0 n=((List.range n).map fun (k:Nat)=>(k:Int)).map D.int:=by unfold zd6;simp
theorem znc {α:Type} {c:Prop} [Decidable c] {a b:M α} {h:Hh} {P:α->Hh->Prop}:wp (if c then a else b) h P↔if c then wp a h P else wp b h P:=by split<;>exact Iff.rfl
theorem zpf {m:Int} (h0:0<=m) (h:m<=1000):zs3 (.int 1) (.int m)=pure (.int (1*2^m.toNat)):=by
 show (if zpC 1 m=true then _ else _)=_
 rw [qa4 (by unfold zpC;simp;omega)]
theorem zo6 {i m:Int} (h0:0<=m):zsZ (.int i) (.int m)=pure (.int (i / 2^m.toNat)):=by
 show (if decide (0<=m)=true then _ else _)=_
 rw [qa4 (by simpa using h0)]
theorem zo7:zsF (.int 10) (.int 12)=pure (.int 1000000000000):=by
 unfold zsF dII
 simp only
 rw [qa4 (by decide)]
 rfl
theorem zpq (i:Int):Builtin.bitAnd i 1=i % 2:=by
 exact bitAnd_m1 i
theorem zdS {f:D->M (Option D)} {k:D->Option D} {h:Hh}: ∀ {ds:List D} {P:List D->Hh->Prop},(∀ x∈ds,wp (f x) h fun o h'=>o=k x/\h'=h)->P (ds.filterMap k) h->wp (zbj f ds) h P
 | [],P,_,q=>by rw [zbj,zan];exact q
 | x::r,P,hf,q=>by
  rw [zbj,zam]
  refine zfr (hf x qau) ?_
  rintro o h' ⟨rfl,rfl⟩
  rw [zam]
  refine zdS (k:=k) (fun y hy=>hf y (qan _ hy)) ?_
  rw [zan]
  cases e:k x with
  | none=>rw [qat,e] at q;exact q
  | some y=>rw [qat,e] at q;exact q
theorem zi7 {fi:FA} {g:D->Sd->M Sd} {tc:FT} {te:FE} {src:List (Option Nat)} {sd:Sd} {ds:List D} {k:D->Option D} {h:Hh} {P:D->Hh->Prop} (hi:fi sd=pure ds) (hl:ds.length<=1000) (hf: ∀ x∈ds,wp (zbc g tc te (zak src sd) x) h fun o h'=>o=k x/\h'=h) (q:P (.lst (ds.filterMap k)) h):wp (zaK fi g tc te src sd) h P:=by
 unfold zaK
 rw [hi]
 simp only [pure_bind]
 rw [zaJ hl]
 simp only [pure_bind]
 rw [zam]
 refine zdS hf ?_
 rw [zan]
 exact q
theorem zoc {xs:List Int} {i:Int} (h:xs.Pairwise (· < ·)) (hi:i∉xs):(zb7 (xs++[i])).Pairwise (· < ·):=by
 have hn:(xs++[i]).Nodup:=by
  rw [List.nodup_append]
  refine ⟨h.imp fun z=>by omega,by simp,fun a ha b hb=> ?_⟩
  simp at hb
  subst hb
  exact fun z=>hi (z▸ha)
 have hn2:(zb7 (xs++[i])).Nodup:=(zaD _).nodup_iff.mpr hn
 exact ((zcX (xs++[i])).and hn2).imp fun ⟨a,b⟩=>by omega
end L3
namespace L2
open PySem PySem.Spec PyProof.Rows L3
theorem zbz.there {P:Program} {w:World} {H:Hp} {h:Heap} {a:Addr} {o:HO} (x:zbz P w H h a o): ∃ ob,h.get? a=some ob:=by
 cases o with
 | lst xs=>obtain ⟨_,_,_,_,e⟩:=x;exact ⟨_,e⟩
 | tup xs=>obtain ⟨_,_,_,ob,e,_⟩:=x;exact ⟨ob,e⟩
 | dK kvs=>obtain ⟨_,_,_,_,ob,_,_,e,_⟩:=x;exact ⟨ob,e⟩
 | dT kvs=>obtain ⟨_,_,_,_,ob,_,_,e,_⟩:=x;exact ⟨ob,e⟩
 | set S n=>obtain ⟨ob,_,_,_,e,_⟩:=x;exact ⟨ob,e⟩
 | ins C dx fs=>obtain ⟨_,_,_,e,_⟩:=x;exact ⟨_,e⟩
 | own y=>exact x
 | xd fs=>obtain ⟨_,⟨ob,_,_,e,_⟩,_⟩:=x;exact ⟨ob,e⟩
 | rng lo hi=>obtain ⟨_,_,_,e⟩:=x;exact ⟨_,e⟩
 | frz ob u=>exact ⟨ob,x.1⟩
 | tbl ps=>exact ⟨_,x⟩
 | met f y=>exact ⟨_,x⟩
 | ext φ=>exact x.2.1
structure HS (H H':Hp) (h:Heap):Prop where
 free: ∀ b o,h.get? b=some o->H b=none->H' b=none
 tups: ∀ b xs,H b=some (.tup xs)->H' b=some (.tup xs)
 frzs: ∀ b o u,H b=some (.frz o u)->H' b=some (.frz o u)
 tbls: ∀ b ps,H b=some (.tbl ps)-> ∃ more,H' b=some (.tbl (ps++more))
structure FlB (P:Program) (w:World) (l:List Env) (H:Hp) (h:Heap) (H':Hp) (B:Heap):Prop where
 old: ∀ b o,h.get? b=some o->b∉frs l-> ∃ o',B.get? b=some o'/\(H b=none->o'=o)
 trk: ∀ b u,H' b=some u-> ∃ o,B.get? b=some o
 ok:HOk P w H' B
structure Fl (P:Program) (w:World) (l:List Env) (H:Hp) (s:Shared) (a C:Addr) (fl:Value) (H':Hp) (s':Shared):Prop where
 os:s'.os=s.os
 bare:AllBare s'.gens
 base: ∃ B:Heap,Fly B l a (.ref C) fl s'.heap/\FlB P w l H s.heap H' B
 slot: ∀ b o,s.heap.get? b=some o->H b=none->b∈frs l-> ∃ sl,s'.heap.get? b=some {o with slots:=sl}
 hs:HS H H' s.heap
section
variable {P:Program} {w:World} {l:List Env} {H H':Hp} {s s':Shared} {a C:Addr} {fl:Value}
theorem Fl.un (y:Fl P w l H s a C fl H' s'):Un (frs l) [] H H' s.heap s'.heap:=by
 obtain ⟨B,y1,y2⟩:=y.base
 refine ⟨fun b o e n hb _=> ?_,fun b o e n hb _=>y.slot b o e n hb,fun b o e n _=>y.hs.free b o e n,fun b o e _=> ?_,y.hs.tups,y.hs.frzs,y.hs.tbls⟩
 ·obtain ⟨o',e',q⟩:=y2.old b o e hb
  rw [<- q n]
  exact y1.stays b o' e'
 ·by_cases hb:b∈frs l
  ·obtain ⟨_,o',e',_⟩:=y1.frames.mem hb
   exact ⟨o',e'⟩
  ·obtain ⟨o',e',_⟩:=y2.old b o e hb
   exact ⟨o',y1.stays b o' e'⟩
theorem Fl.hok (y:Fl P w l H s a C fl H' s'):HOk P w H' s'.heap:=by
 obtain ⟨B,y1,y2⟩:=y.base
 exact y2.ok.kept y1.stays
theorem Fl.exc (y:Fl P w l H s a C fl H' s'): ∃ head,zgE s'.heap a (.ref C) head:=by
 obtain ⟨B,y1,y2⟩:=y.base
 obtain ⟨hd,z,_⟩:=y1.exc
 exact ⟨hd,z⟩
theorem Fl.fresh (y:Fl P w l H s a C fl H' s'):s.heap.get? a=none/\H' a=none/\a∉frs l:=by
 obtain ⟨B,y1,y2⟩:=y.base
 have nf:a∉frs l:=fun z=>by
  obtain ⟨_,o,e,n⟩:=y1.frames.mem z
  obtain ⟨_,⟨ob,vs,e2,_,_,d,_⟩,_⟩:=y1.exc
  rw [e] at e2
  cases e2
  exact n vs d
 refine ⟨?_,?_,nf⟩
 ·cases q:s.heap.get? a with
  | none=>rfl
  | some o=>
   obtain ⟨o',e,_⟩:=y2.old a o q nf
   rw [y1.new] at e
   cases e
 ·cases q:H' a with
  | none=>rfl
  | some u=>
   obtain ⟨o',e⟩:=y2.trk a u q
   rw [y1.new] at e
   cases e
theorem Fl.mv {B h':Heap} {fl':Value} (os:s'.os=s.os) (bare:AllBare s'.gens) (slot: ∀ b o,s.heap.get? b=some o->H b=none->b∈frs l-> ∃ sl,s'.heap.get? b=some {o with slots:=sl}) (hs:HS H H' s.heap)
  (fr:s'.heap.FunFrames B l) (z:Fly B l a (.ref C) fl' h') (y:FlB P w l H s.heap H' B) (u:s'.heap.UpToSlots h'):Fl P w l H s a C fl' H' {s' with heap:=h'}:=by
 refine ⟨os,bare,⟨B,z,y⟩,fun b o e n hb=> ?_,hs⟩
 obtain ⟨sl,e2⟩:=slot b o e n hb
 obtain ⟨_,o2,e3,n3⟩:=fr.mem hb
 rw [e2] at e3
 cases e3
 obtain ⟨sl',e4⟩:=u b _ e2 n3
 exact ⟨sl',e4⟩
section
variable {M:Model} {A:Around} {E:Value->Shared->Prop} {env:Env} {outer:List Env} {L:Addr} {Q:Unit->Shared->Prop}
theorem Fl.note (y:Fl P w (env::outer) H s a C .none H' s') (hfr:A.frames=some (env::outer)) (hf:env.frame=some L) (k: ∀ h',Fl P w (env::outer) H s a C (rawInt L) H' {s' with heap:=h'}->Q () {s' with heap:=h'}):
  wpAny M A (noteFrame (.ref a) env) Q E s':=by
 obtain ⟨B,y1,y2⟩:=y.base
 exact zkC hfr hf y1 fun h' z u=>k h' (Fl.mv y.os y.bare y.slot y.hs y1.frames z y2 u)
theorem Fl.off (y:Fl P w l H s a C fl H' s') (k: ∀ h',Fl P w l H s a C .none H' {s' with heap:=h'}->Q () {s' with heap:=h'}):wpAny M A (setFlight (.ref a) none) Q E s':=by
 obtain ⟨B,y1,y2⟩:=y.base
 exact zdV y1 fun h' z u=>k h' (Fl.mv y.os y.bare y.slot y.hs y1.frames z y2 fun b o e n=>⟨o.slots,u b o e n⟩)
end
end
structure zeR (X:Cx):Prop where
 stk:X.stack=X.env::X.outer
 frm:X.env.frame=some X.env.locals
 ex:X.ex=[]
theorem zeR.frs {X:Cx} (z:zeR X):frs X.stack=X.env.locals::frs X.outer:=by
 rw [z.stk]
 unfold L2.frs
 rw [qat,z.frm]
section
variable {X:Cx} {pins:List (Addr×Obj)} {σ:St} {H H':Hp} {s s':Shared} {a C:Addr} {M:Model} {E:Value->Shared->Prop} {Q:Unit->Shared->Prop}
theorem Inv.below (I:Inv X pins σ H s) {b:Addr} {o:Obj} (e:X.s₀.heap.get? b=some o):b≠X.env.locals:=qaR (qaw (qaQ e) I.ok.above)
theorem Fl.leave (z:zeR X) (I:Inv X pins σ H s) (y:Fl X.prog X.w X.stack H s a C .none H' s') (k: ∀ s2,Fl X.prog X.w X.outer X.H₀ X.s₀ a C .none H' s2->Q () s2):wpAny M X.A (leaving X.env (.ref a)) Q E s':=by
 have nex: ∀ b,b∉X.ex:=fun b h=>by rw [z.ex] at h;cases h
 obtain ⟨B,y1,y2⟩:=y.base
 have hfr:=I.ok.frames
 rw [z.stk] at hfr y1
 refine zl2 hfr z.frm y1 fun h' q u=>k _ ?_
 have nin: ∀ b o,X.s₀.heap.get? b=some o->b∉frs X.outer->b∉frs X.stack:=fun b o e hb hm=>by
  rw [z.frs] at hm
  rcases qaP.mp hm with r | r
  ·exact I.below e r
  ·exact hb r
 refine ⟨y.os.trans I.os,y.bare,⟨B,q,fun b o e hb=> ?_,y2.trk,y2.ok⟩,fun b o e n hb=> ?_,fun b o e n=> ?_,fun b xs e=>y.hs.tups b xs (I.base.tups b xs e),fun b o v e=>y.hs.frzs b o v (I.base.frzs b o v e),fun b ps e=> ?_⟩
 ·obtain ⟨o1,e1⟩:=I.base.there b o e (nex b)
  obtain ⟨o2,e2,q2⟩:=y2.old b o1 e1 (nin b o e hb)
  refine ⟨o2,e2,fun n=> ?_⟩
  have e3:=I.base.keep b o e n hb (nex b)
  rw [e1] at e3
  cases e3
  exact q2 (I.base.free b o e n (nex b))
 ·obtain ⟨sl,e1⟩:=I.base.slot b o e n hb (nex b)
  have hb2:b∈frs X.stack:=by rw [z.frs];exact qan _ hb
  obtain ⟨sl2,e2⟩:=y.slot b _ e1 (I.base.free b o e n (nex b)) hb2
  obtain ⟨_,o3,e3,n3⟩:=y1.frames.mem (by rw [<- z.stk];exact hb2)
  rw [e2] at e3
  cases e3
  obtain ⟨sl4,e4⟩:=u b _ e2 n3
  exact ⟨sl4,e4⟩
 ·obtain ⟨o1,e1⟩:=I.base.there b o e (nex b)
  exact y.hs.free b o1 e1 (I.base.free b o e n (nex b))
 ·obtain ⟨m1,e1⟩:=I.base.tbls b ps e
  obtain ⟨m2,e2⟩:=y.hs.tbls b _ e1
  exact ⟨m1++m2,by rw [e2,Array.append_assoc]⟩
theorem Fl.made {h':Heap} {vs:List Value} (z:zeR X) (I:Inv X pins σ H s) (m:Heap.MadeExcOf s.heap h' a (.ref C) vs) (k: ∀ s2,Fl X.prog X.w X.outer X.H₀ X.s₀ a C .none H s2->Q () s2):wpAny M X.A (leaving X.env (.ref a)) Q E {s with heap:=h'}:=by
 have nex: ∀ b,b∉X.ex:=fun b h=>by rw [z.ex] at h;cases h
 have hfr:=I.ok.frames
 have hl:=I.stack
 have hin: ∀ env∈X.stack, ∀ b,env.frame=some b->b∈frs X.stack:=fun env he b hb=>List.mem_filterMap.mpr ⟨env,he,hb⟩
 have hl2:=W.funFrames_hide hl hin
 have hl3:h'.FunFrames (W.hideAll s.heap (frs X.stack)) X.stack:=hl2.of_keeps fun b o e _=>⟨o,m.keeps b o e,rfl⟩
 have inB: ∀ {b:Addr} {o:Obj},s.heap.get? b=some o->b∉frs X.stack->(W.hideAll s.heap (frs X.stack)).get? b=some o:=fun e n=>W.hideAll_get _ e n
 have ofB: ∀ {b:Addr} {o:Obj},(W.hideAll s.heap (frs X.stack)).get? b=some o->s.heap.get? b=some o:=fun e=>W.of_hideAll _ e
 have trk: ∀ b u,H b=some u->b∉frs X.stack:=fun b u e hm=>by rw [I.stkFree b hm] at e;cases e
 have newB:(W.hideAll s.heap (frs X.stack)).get? a=none:=by
  cases q:(W.hideAll s.heap (frs X.stack)).get? a with
  | none=>rfl
  | some o=>have:=ofB q;rw [m.new] at this;cases this
 have hst:=z.stk
 refine zhw (B:=W.hideAll s.heap (frs X.stack)) (by rw [<- hst];exact hfr) (by rw [<- hst];exact hl3) z.frm (zl9 m) (fun b o e=>m.keeps b o (ofB e)) newB fun h2 q u=>k _ ?_
 have nin: ∀ b o,X.s₀.heap.get? b=some o->b∉frs X.outer->b∉frs X.stack:=fun b o e hb hm=>by
  rw [z.frs] at hm
  rcases qaP.mp hm with r | r
  ·exact I.below e r
  ·exact hb r
 refine ⟨I.os,I.bare,⟨_,q,fun b o e hb=> ?_,fun b v e=> ?_,fun b v e=> ?_⟩,fun b o e n hb=> ?_,fun b o e n=>I.base.free b o e n (nex b),I.base.tups,I.base.frzs,I.base.tbls⟩
 ·obtain ⟨o1,e1⟩:=I.base.there b o e (nex b)
  refine ⟨o1,inB e1 (nin b o e hb),fun n=> ?_⟩
  have e3:=I.base.keep b o e n hb (nex b)
  rw [e1] at e3
  cases e3
  rfl
 ·obtain ⟨o,e1⟩:=(I.hok b v e).there
  exact ⟨o,inB e1 (trk b v e)⟩
 ·refine (I.hok b v e).stay (fun c o hc e1=>inB e1 ?_) (fun _ r=>r) fun _ _ r=>r
  rcases hc with rfl | hc
  ·exact trk _ v e
  ·exact trk _ _ hc
 ·obtain ⟨sl,e1⟩:=I.base.slot b o e n hb (nex b)
  have hb2:b∈frs X.stack:=by rw [z.frs];exact qan _ hb
  obtain ⟨_,o3,e3,n3⟩:=hl.mem hb2
  rw [e1] at e3
  cases e3
  obtain ⟨sl4,e4⟩:=u b _ (m.keeps b _ e1) n3
  exact ⟨sl4,e4⟩
end
noncomputable def CXE (P:Program) (w:World):CXT:=fun outer H s E e s'=> ∃ a C H',e= .ref a/\Fl P w outer H s a C .none H' s'/\E e (some C) H'
end L2
namespace L3
open PySem PySem.Spec PyProof.Rows L2
def zbO (K:W.Frag) (c:String) (C:Addr):Prop:=W.nsIn K mainGlobals (c:Str)=some (some (.ref C))
noncomputable def zpE (K:W.Frag) (E:XE):XK:=fun _ oc H'=> ∃ c C,oc=some C/\zbO K c C/\E c H'
noncomputable def zsz (K:W.Frag) (E:XK):XE:=fun c H'=> ∀ C v,zbO K c C->E v (some C) H'
def zpz (X:Cx) (E:XE):Prop:= ∀ (pins:List (Addr×Obj)) (σ:St) (H:Hp) (s:Shared) (h':Heap) (a C:Addr) (c:String) (vs:List Value),Inv X pins σ H s->zbO X.K c C->Heap.MadeExcOf s.heap h' a (.ref C) vs->E c H->X.xe (.ref a) {s with heap:=h'}
section
variable {P:Program} {w:World} {K:W.Frag} {mg:Str->Option Value} {base:Heap} {N:List Str} {qual:Str} {scope:Scope} {f:Addr} {cd:Value} {A:Around} {outer:List Env} {s:Shared} {H:Hp} {E:XK}
theorem zmM:zeR (zg4 (CXE P w) P w K mg base N qual scope f cd A outer s H E):=⟨rfl,rfl,rfl⟩
theorem zot:zdA (CXE P w) (zg4 (CXE P w) P w K mg base N qual scope f cd A outer s H E) (zpE K (zsz K E)):=by
 intro pins σ H1 s1 e s2 I h
 obtain ⟨a,C,H2,rfl,y,c,C',e1,hc,he⟩:=h
 cases e1
 exact Fl.leave zmM I y fun s3 y3=>⟨a,C,H2,rfl,y3,he _ _ hc⟩
theorem zlz:zpz (zg4 (CXE P w) P w K mg base N qual scope f cd A outer s H E) (zsz K E):=by
 intro pins σ H1 s1 h' a C c vs I hc m he
 exact Fl.made zmM I m fun s3 y3=>⟨a,C,H1,rfl,y3,he _ _ hc⟩
end
noncomputable def noX {α:Type} (m:M α):M α:=fun h=>match m h with
 | .exc _ _=> .bad
 | r=>r
theorem Fin.noX {α:Type} {K:W.Frag} {E E':XE} {ι:Io} {H:Hp} {m:M α} {h:Hh} {P:α->Io->Hp->Prop} (q:Fin K E ι H (L3.noX m h) P):Fin K E' ι H (m h) P:=by
 unfold L3.noX at q
 cases e:m h with
 | ok a h'=>rw [e] at q;exact q
 | exc c h'=>rw [e] at q;exact qa0 q
 | bad=>rw [e] at q;exact q
noncomputable def spE (K:W.Frag) (n:Nat) (F:List D->M D):Sp:=fun vs H Q E=>vs.length=n/\ ∃ ι h ds,zas K ι H ds vs/\zbb K ι H h/\Fin K (zsz K E) ι H (F ds h) fun d ι' H'=> ∀ v,Rel K ι' H' d v->Q v H'
section
variable {P:Program} {w:World} {K:W.Frag} {mg:Str->Option Value} {base:Heap}
theorem znn {x qual:Str} {st:Stmt} {f:Addr} {fd:FuncData} {N ps:List Str} {k:Nat} {G:Sd->M Out} (F:Fun K x qual st f fd) (S:zau N ps (zae st))
  (hb: ∀ (cdv:Value) (A:Around) (outer:List Env) (s:Shared) (H:Hp) (E:XK),zdN k (A.deeper (envOfC qual (zae st) s.heap.objs.size f cdv))->SSs (zg4 (CXE P w) P w K mg base N qual (zae st) f cdv A outer s H E) (zsz K E) (zcq st) G):
  zb6 P w K mg base (CXE P w) (k+1) f fd ps (spE K ps.length (zc4 N.length G)):=by
 obtain ⟨oc,od,kV,doc,pm,an,cdv,ct,osl,rfl,lk,hcd⟩:=F.ex
 refine zrz lk hcd S (fun vs H Q E h=>h.1) fun A outer s H vs Q E hr ⟨hl,ι,h,ds,rl,hh,q⟩=>⟨_,hb cdv A outer s H E hr,ι,h,zfn N.length ds,zdR rl,hh,?_⟩
 refine Fin.bind q fun o h1 ι1 H1 e1 s1 hr1 q1=> ?_
 cases o with
 | nx sd=>exact fun σ' _=>Fin.out hr1 q1 _ (by simp [Rel])
 | rt d=>exact fun v rv=>Fin.out hr1 q1 v rv
 | bk sd=>exact qa0 q1
 | ct sd=>exact qa0 q1
end
section
variable {X:Cx} {E:XE} {e:Expr} {es:List Expr} {pos p:Pos}
theorem Fin.exmono {α:Type} {K:W.Frag} {E E':XE} {ι:Io} {H:Hp} {r:R α} {P:α->Io->Hp->Prop} (m: ∀ c H',E c H'->E' c H') (q:Fin K E ι H r P):Fin K E' ι H r P:=by
 cases r with
 | ok a h'=>exact q
 | exc c h'=>exact fun ι2 H2 t hr=>m _ _ (q ι2 H2 t hr)
 | bad=>exact q
theorem zlI {k:Nat} {f:Addr} {fd:FuncData} {ps:List Str} {n:Nat} {F:List D->M D} {fs:Sd->M (List D)} {x:Str} (G:zb6 X.prog X.w X.K X.mg X.base (CXE X.prog X.w) k f fd ps (spE X.K n F)) (hx:zdA (CXE X.prog X.w) X (zpE X.K E)) (hr:zdN k X.A) (hg:Gl X x) (hm:X.mg x=some (.ref f)) (hk:W.keepIn X.K (.ref f)=true) (hb:zaS X.K fd ps [])
  (ha:SA X E (e::es) fs) (hdb:(x==("__debug__":Str))=false:=by decide) (he:starEach (e::es) X.env=(false,eval e X.env)::starEach es X.env:=by rfl) (hpl:(backTo pos (starEach es X.env)).any (·.1)=false:=by rfl):
  SE X E (.Call (.Name x p) (e::es) [] pos) (zaT (zay n F) fs):=by
 refine PE.imp (zhd G hr hg hm hk hb (dvs:=[]) .nil hx ha hdb he hpl) fun σ H Q ⟨ι,h,sd,L,hh,q⟩=>⟨ι,h,sd,L,hh,Fin.bind q fun ds h1 ι1 H1 e1 s1 hr1 q1 vs rv=> ?_⟩
 show spE X.K n F (vs++[]) H1 Q _
 rw [List.append_nil]
 unfold zay at q1
 by_cases hl:ds.length=n
 ·rw [qa4 hl] at q1
  exact ⟨by rw [<- rv.length];exact hl,ι1,h1,ds,rv,hr1,Fin.exmono (fun c H' z C v hc=>⟨c,C,rfl,hc,z⟩) q1⟩
 ·rw [qa5 hl] at q1
  exact qa0 q1
theorem zlY {k:Nat} {f:Addr} {fd:FuncData} {ps:List Str} {n:Nat} {F:List D->M D} {fs:Sd->M (List D)} {x:Str} (G:zb6 X.prog X.w X.K X.mg X.base CX0 k f fd ps (zb9 X.K n F)) (hr:zdN k X.A) (hg:Gl X x) (hm:X.mg x=some (.ref f)) (hk:W.keepIn X.K (.ref f)=true) (hb:zaS X.K fd ps [])
  (ha:SA X E (e::es) fs) (hdb:(x==("__debug__":Str))=false:=by decide) (he:starEach (e::es) X.env=(false,eval e X.env)::starEach es X.env:=by rfl) (hpl:(backTo pos (starEach es X.env)).any (·.1)=false:=by rfl):
  SE X E (.Call (.Name x p) (e::es) [] pos) (zaT (zay n fun ds=>noX (F ds)) fs):=by
 refine PE.imp (zhd G hr hg hm hk hb (dvs:=[]) .nil (E:=fun _ _ _=>False) zqm ha hdb he hpl) fun σ H Q ⟨ι,h,sd,L,hh,q⟩=>⟨ι,h,sd,L,hh,Fin.bind q fun ds h1 ι1 H1 e1 s1 hr1 q1 vs rv=> ?_⟩
 show zb9 X.K n F (vs++[]) H1 Q _
 rw [List.append_nil]
 unfold zay at q1
 by_cases hl:ds.length=n
 ·rw [qa4 hl] at q1
  exact ⟨by rw [<- rv.length];exact hl,ι1,h1,ds,rv,hr1,Fin.noX q1⟩
 ·rw [qa5 hl] at q1
  exact qa0 q1
end
end L3
namespace L2
open PySem PySem.Spec PyProof.Rows L3
structure zdM (k:Nat) (A:Around):Prop where
 dp:A.depth+3*k+5<recursionLimit
 un:A.units+16*k+200<cLine
theorem zdM.of {k:Nat} {A:Around} (r:zdN k A):zdM k A:=⟨r.dp,r.un⟩
theorem zdM.deeper {k:Nat} {A:Around} (r:zdM (k+1) A) (env:Env):zdM k (A.deeper env):=
 ⟨by have:=r.dp;show A.depth+1+3*k+5<_;omega,by have:=r.un;show A.units+3+16*k+200<_;omega⟩
structure FnH (P:Program) (w:World) (K:W.Frag) (mg:Str->Option Value) (base:Heap) (k:Nat) (f:Addr) (fd:FuncData) (ps:List Str) (sp:Sp):Prop where
 len: ∀ vs H Q E,sp vs H Q E->vs.length=ps.length
 run: ∀ (A:Around) (outer:List Env) (s:Shared) (H:Hp) (args:Args) (us:List Value) (vs:List V) (Q:VK),zdM k A->zpB P w K mg base A outer s H->BindsTo s fd args (ps.zip us)->zbm vs us->sp vs H Q E0->
  codeAny (model P w) A (.call (.ref f) args) (CR CX0 outer P w H s Q E0) s
theorem zpP {P:Program} {w:World} {K:W.Frag} {mg:Str->Option Value} {base:Heap} {k:Nat} {f:Addr} {name qual:Str} {params:Arguments} {body:List Stmt} {scope:Scope} {dV kV doc pm cdv ct oc:Value} {an od:Option Addr}
  {osl:Array (Option Value)} {N ps:List Str} {sp:Sp} (lk:K.lookup f=some ⟨oc,od,.func (W.fnOf name qual params body scope dV kV doc pm an cdv ct),osl⟩) (hcd:W.codeIn K cdv qual=true) (S:zau N ps scope)
  (len: ∀ vs H Q E,sp vs H Q E->vs.length=ps.length)
  (hbody: ∀ (A:Around) (outer:List Env) (s:Shared) (H:Hp) (vs:List V) (Q:VK),zdM k (A.deeper (envOfC qual scope s.heap.objs.size f cdv))->sp vs H Q E0->
    ∃ t,PSs ({zg4 CX0 P w K mg base N qual scope f cdv A outer s H E0 with calm:=false}:Cx).nox body t/\t {nx:=fun _ H'=>Q .non H',rt:=Q} (zdP N vs) H):
  FnH P w K mg base (k+1) f (W.fnOf name qual params body scope dV kV doc pm an cdv ct) ps sp:=by
 refine ⟨len,fun A outer s H args us vs Q hr e0 hb r hsp=> ?_⟩
 have hl:=len _ _ _ _ hsp
 have KX:K.In s.heap:=e0.mod.kin.keeps fun b o e=>(e0.bs b o e).1
 have lim:s.heap.NoLimit:=e0.mod.nolimit.keeps fun b o e=>(e0.bs b o e).1
 have hkind: ∀ y∈ps.zip us,scope.names.lookup y.1=some .local\/(scope.names.lookup y.1=some .cell/\((cellsFrom (s.heap.objs.size+1) scope.names []).lookup y.1).isSome=true):=fun ⟨n,v⟩ hy=>by
  rcases S.par n (List.of_mem_zip hy).1 with q | q
  ·exact .inl q
  ·exact .inr ⟨q,W.cellsFrom_some _ _ _ (.inl q)⟩
 refine codeAny_call_function (by have:=hr.dp;omega) (KX _ _ lk) rfl S.co S.gen rfl (W.codeRec_of KX hcd) (hb _ _ _ _ ?_)
 refine wpAny_newFunctionEnv_cells S.kind hkind fun env he s1 x=> ?_
 subst he
 refine ⟨lim.keeps x.toInCall.keep,codeAny_func ?_⟩
 obtain ⟨t,ht,hq⟩:=hbody A outer s H vs Q (hr.deeper _) hsp
 have I:Inv {zg4 CX0 P w K mg base N qual scope f cdv A outer s H E0 with calm:=false} [] (zdP N vs) H s1:=zgw (cm:=false) S (fun z=>by cases z) e0 hl r x
 refine qaZ (ht.nox [] s1 (zdP N vs) H _ I hq) (fun fl s' hs=> ?_) fun e s' hs=>hs
 have fin: ∀ {σ':St} {H':Hp} {v:V} {u:Value},Inv {zg4 CX0 P w K mg base N qual scope f cdv A outer s H E0 with calm:=false} [] σ' H' s'->zby v u->Q v H'->CE outer P w H s Q u s':=
  fun {σ' H' v u} J rv q=>⟨v,H',J.os,J.bare,J.base,J.hok,rv,q⟩
 cases fl with
 | ret u=>
  obtain ⟨v,σ',H',J,rv,q⟩:=hs
  exact fin J rv q
 | next=>
  obtain ⟨σ',H',J,q⟩:=hs
  exact fin (v:=V.non) (u:=Value.none) J rfl q
 | brk=>
  obtain ⟨_,_,_,q⟩:=hs
  exact qa0 q
 | cont=>
  obtain ⟨_,_,_,q⟩:=hs
  exact qa0 q
section
variable {X:Cx} {pins:List (Addr×Obj)} {σ:St} {H H':Hp} {s s':Shared} {a:Addr} {o:Obj}
theorem Inv.track (I:Inv X pins σ H s) (hH:H a=none) (ho:s.heap.get? a=some o) (h0:X.s₀.heap.get? a=none) (hL:a≠X.env.locals) (hc: ∀ x c,X.env.cells.lookup x=some c->c≠a) (hp: ∀ p∈X.pn++pins,p.1≠a):
  Inv X pins σ (upd H a (.frz o (.own 0))) s:=by
 have un: ∀ {b:Addr} {u:HO},H b=some u->upd H a (.frz o (.own 0)) b=some u:=fun e=>by rw [zax (zaO e hH)];exact e
 refine ⟨I.ok,I.os,I.bare,⟨I.base.keep,I.base.slot,fun b ob e n hx=> ?_,I.base.there,fun b xs e=>un (I.base.tups b xs e),fun b ob u e=>un (I.base.frzs b ob u e),fun b ps e=> ?_⟩,I.loc,I.cell,?_,fun x c e=> ?_,fun p q=> ?_,fun b u e=> ?_,I.len⟩
 ·rw [zax (fun z=>by subst z;rw [h0] at e;cases e)]
  exact I.base.free b ob e n hx
 ·obtain ⟨m,e1⟩:=I.base.tbls b ps e
  exact ⟨m,un e1⟩
 ·rw [zax (Ne.symm hL)]
  exact I.free
 ·rw [zax (hc x c e)]
  exact I.freeC x c e
 ·obtain ⟨e1,e2,e3⟩:=I.pin p q
  exact ⟨e1,by rw [zax (hp p q)];exact e2,e3⟩
 ·by_cases hb:b=a
  ·subst hb
   rw [zaH] at e
   cases e
   exact ⟨ho,o,ho⟩
  ·rw [zax hb] at e
   exact (I.hok b u e).stay (fun _ _ _ z=>z) (fun c z=>un z) fun c xs z=>un z
theorem zpk {M:Model} {A:Around} {E:Value->Shared->Prop} {i:Nat} {x:Str} {pos:Pos} {Q:Unit->Shared->Prop} (I:Inv X pins σ H s) (hN:X.N.Nodup) (hi:X.N[i]? = some x) (hk:X.env.scope.names.lookup x=some .local)
  (h: ∀ s',Inv X pins (σ.set i none) H s'->Q () s'):wpAny M A (do bindName X.env x .none;unbindBehindTheSuite X.env x pos) Q E s:=by
 obtain ⟨m,hn,hl⟩:=id I.loc
 have hcls:(X.env.scope.kind== .class || (X.env.scope.kind== .module && X.env.locals != X.env.globals))=false:=by rw [I.ok.kind];rfl
 have hiσ:i<σ.length:=by rw [I.len];exact (qac.mp hi).1
 have cne:=I.cne
 refine wpAny_nameGoes_keeps hk hn hcls fun h' v hn' hs=> ?_
 obtain ⟨oL,_,_,hoL,_⟩:=id hn
 refine h _ ⟨I.ok,I.os,I.bare,⟨fun b ob e n hb hx=> ?_,fun b ob e n hb hx=> ?_,I.base.free,fun b ob e hx=> ?_,I.base.tups,I.base.frzs,I.base.tbls⟩,⟨_,hn',fun j y v' e1 e2 e3=> ?_⟩,fun y c e=> ?_,I.free,I.freeC,fun p hp=> ?_,fun b ob e=> ?_,by simpa using I.len⟩
 ·exact (hs.2 b (I.below e)).trans (I.base.keep b ob e n hb hx)
 ·obtain ⟨sl,e1⟩:=I.base.slot b ob e n hb hx
  exact ⟨sl,(hs.2 b (I.below e)).trans e1⟩
 ·obtain ⟨o',e1⟩:=I.base.there b ob e hx
  exact ⟨o',(hs.2 b (I.below e)).trans e1⟩
 ·by_cases hj:j=i
  ·subst hj
   rw [qai hiσ] at e2
   cases e2
  ·rw [qao (Ne.symm hj)] at e2
   obtain ⟨u',r',q⟩:=hl j y v' e1 e2 e3
   refine ⟨u',r',?_⟩
   rcases q with ⟨k,e⟩ | ⟨k,c,e,z⟩
   ·refine .inl ⟨k,?_⟩
    have:y≠x:=fun e=>hj (zfE hN e1 (e▸hi))
    simp [this,e]
   ·exact .inr ⟨k,c,e,z.sameBut hs (cne y c e)⟩
 ·obtain ⟨w',z⟩:=I.cell y c e
  exact ⟨w',z.sameBut hs (cne y c e)⟩
 ·obtain ⟨e,n,ne,nf,d⟩:=I.pin p hp
  exact ⟨(hs.2 p.1 ne).trans e,n,ne,nf,d⟩
 ·refine (I.hok b ob e).stay (fun c w' hc q=>(hs.2 c ?_).trans q) (fun _ q=>q) fun _ _ q=>q
  rintro rfl
  rcases hc with rfl | hc
  ·rw [I.free] at e;cases e
  ·rw [I.free] at hc;cases hc
end
section
variable {X:Cx} {pins:List (Addr×Obj)} {σ:St} {H H':Hp} {s s':Shared} {a C CE:Addr} {ce en:Str} {pce pos:Pos} {b₀:Stmt} {suite:List Stmt} {j:Nat} {Q:Flow->Shared->Prop} {E:Value->Shared->Prop}
theorem Fl.caught (z:zeR X) (I:Inv X pins σ H s) (y:Fl X.prog X.w X.stack H s a C .none H' s') (hN:X.N.Nodup) (hj:X.N[j]? = some en) (hen:X.env.scope.names.lookup en=some .local) (hg:Gl X ce) (hm:X.mg ce=some (.ref CE)) (hx:W.exmOne X.K (.ref C) (.ref CE)=some true)
  (k: ∀ s6,Inv X pins (σ.set j (some (.ref a))) H' s6->(∃ head,zgE s6.heap a (.ref C) head)->wpAny (model X.prog X.w) (X.A.mark (some (.ref a))) (execs (b₀::suite) X.env)
    (fun f s4=>wpAny (model X.prog X.w) X.A (do bindName X.env en .none;unbindBehindTheSuite X.env en pos) (fun _ s5=>Q f s5) E s4) (fun _ _=>False) s6) (hd:(ce==("__debug__":Str))=false:=by decide):
  wpAny (model X.prog X.w) X.A (noteFrame (.ref a) X.env) (fun _ s2=>wpAny (model X.prog X.w) X.A (setFlight (.ref a) none) (fun _ s3=>
    wpAny (model X.prog X.w) X.A (handleBy (.ref a) X.env [.ExceptHandler (some (.Name ce pce)) (some en) (b₀::suite) pos]) Q E s3) E s2) E s':=by
 have hfr:=I.ok.frames
 rw [z.stk] at hfr y
 refine y.note hfr z.frm fun h3 y3=> ?_
 refine y3.off fun h4 y4=> ?_
 have ev: ∀ {hp fl},Fl X.prog X.w (X.env::X.outer) H s a C fl H' {s' with heap:=hp}->Inv X pins σ H' {s' with heap:=hp}:=fun {hp fl} y=>by
  have u:=y.un
  rw [<- z.stk] at u
  exact I.call' y.os u y.hok y.bare fun b q=>absurd q (by simp)
 have I4:=ev y4
 obtain ⟨hd4,x4⟩:=y4.exc
 have LT:W.Looks (model X.prog X.w) h4 (typeOf (.ref a)) (.ref C):=by
  obtain ⟨ob,vs,e1,e2,_⟩:=x4
  exact e2▸(W.Looks.ld e1).andThen .now
 refine wpAny_handleBy_cons (codeAny_handlers_test ?_) (by intro q;cases q)
 refine Calls.Name_function_global I4.ok.kind hg (Calls.loadGlobal_global (by rw [I4.ok.glob];exact I4.mod.glob.keeps I4.bk) hm ?_) hd
 refine (W.exm_one I4.kIn LT hx).here ?_
 refine codeAny_handlers_suite_as ?_
 refine y4.off fun h5 y5=> ?_
 have I5:=ev y5
 obtain ⟨hd5,x5⟩:=y5.exc
 have na:a≠X.env.locals/\ ∀ x c,X.env.cells.lookup x=some c->c≠a:=by
  obtain ⟨f1,f2,f3⟩:=y.fresh
  refine ⟨fun q=> ?_,fun x c e q=> ?_⟩
  ·obtain ⟨m,⟨oL,_,_,hoL,_⟩,_⟩:=I.loc
   rw [<- q,f1] at hoL
   cases hoL
  ·obtain ⟨v,oc,hoc,_⟩:=I.cell x c e
   rw [q,f1] at hoc
   cases hoc
 refine zgV I5 hN hj (.inl hen) (v:= .ref a) rfl (fun s6 I6 ⟨b,sb,hb⟩=> ?_) (.inr hen)
 refine qaZ (k s6 I6 ⟨hd5,x5.keep fun ob e=>(sb.2 a fun q=> ?_).trans e⟩) (fun _ _ q=>q) fun _ _ q=>q.elim
 rcases hb with hb | hb
 ·exact na.1 (q.trans hb)
 ·exact na.2 en b hb q.symm
end
noncomputable abbrev zjp:List Value:=[.type "ValueError",.type "Exception",.type "BaseException",.type "object"]
theorem zoq {K:W.Frag} {h:Heap} {mg:Str->Option Value} {x:Str} {C:Addr} {bm:List Value} {nid:String} (X:K.In h) (hm:mg x=some (.ref C)) (q:W.excIn K C bm nid=true):OwnCls x C bm nid mg h:=by
 refine ⟨hm,?_⟩
 unfold W.excIn at q
 split at q
 ·rename_i dd cdt sl lk
  split at q
  ·rename_i C2 tl y0 y1 y2 y3 nn y5 hmro hsl
   simp only [qaG,beq_iff_eq,Bool.not_eq_true'] at q
   obtain ⟨⟨⟨⟨⟨rfl,rfl⟩,q3⟩,q4⟩,q5⟩,q6⟩:=q
   obtain ⟨z1,z2,z3,z4,z5,z6,z7,z8,z9,z10,z11⟩:=cdt
   dsimp only at hmro q3 q5 q6
   subst hmro q3
   obtain rfl:sl= #[y0,y1,y2,y3,some (.builtin nn),y5]:=by
    obtain ⟨ll⟩:=sl
    dsimp only at hsl
    rw [hsl]
   exact ⟨tl,z4,z1,z5,z2,z6,z7,z8,z9,z10,dd,y0,y1,y2,y3,y5,_,X _ _ lk,.of_isNs (W.isNs_of_in X q5),W.nsMap_none_of_in X q5 q6,W.tail_of_in X q4⟩
  ·cases q
 ·cases q
noncomputable def Cx.re (X:Cx) (pn:List (Addr×Obj)) (xe:Value->Shared->Prop):Cx:={X with pn:=pn,xe:=xe}
section
variable {X:Cx} {pins pins':List (Addr×Obj)} {σ:St} {H H':Hp} {s s':Shared} {xe:Value->Shared->Prop}
theorem Inv.re (I:Inv X pins σ H s) (xe:Value->Shared->Prop):Inv (X.re (X.pn++pins) xe) [] σ H s:=
 ⟨⟨I.ok.mod,I.ok.kind,I.ok.glob,I.ok.blt,I.ok.above,I.ok.inj,I.ok.has,I.ok.cab,I.ok.hd,I.ok.hx,I.ok.frames,I.ok.stk,I.ok.exf,I.ok.bs,I.ok.bsz,I.ok.noex,I.ok.exfs,I.ok.funs,I.ok.frf⟩,I.os,I.bare,I.base,I.loc,I.cell,I.free,I.freeC,fun p hp=>I.pin p (by simpa [Cx.re] using hp),I.hok,I.len⟩
theorem Inv.unre (I:Inv (X.re (X.pn++pins) xe) pins' σ H s):Inv X pins σ H s:=
 ⟨⟨I.ok.mod,I.ok.kind,I.ok.glob,I.ok.blt,I.ok.above,I.ok.inj,I.ok.has,I.ok.cab,I.ok.hd,I.ok.hx,I.ok.frames,I.ok.stk,I.ok.exf,I.ok.bs,I.ok.bsz,I.ok.noex,I.ok.exfs,I.ok.funs,I.ok.frf⟩,I.os,I.bare,I.base,I.loc,I.cell,I.free,I.freeC,fun p hp=>I.pin p (List.mem_append_left _ hp),I.hok,I.len⟩
theorem SP.unre {D:znv} {f:Flow} (h:SP (X.re (X.pn++pins) xe) pins' D f s'):SP X pins D f s':=by
 cases f with
 | next=>obtain ⟨σ',H',I,q⟩:=h;exact ⟨σ',H',I.unre,q⟩
 | brk=>obtain ⟨σ',H',I,q⟩:=h;exact ⟨σ',H',I.unre,q⟩
 | cont=>obtain ⟨σ',H',I,q⟩:=h;exact ⟨σ',H',I.unre,q⟩
 | ret u=>obtain ⟨v,σ',H',I,r,q⟩:=h;exact ⟨v,σ',H',I.unre,r,q⟩
end
end L2
namespace L3
open PySem PySem.Spec PyProof.Rows L2
section
variable {X:Cx} {pins:List (Addr×Obj)} {σ:L2.St} {H:Hp} {s:Shared} {a C:Addr} {o:Obj} {vs:Array Value} {head:Value} {c:String} {gk en pe:Str} {p1 p2 p3:Pos} {j k:Nat} {fk:Addr} {fdk:FuncData} {Fk:List D->M D} {Qv:VK} {ι:Io} {h:Hh}
theorem zjE (I:Inv X pins σ H s) (hH:H a=none) (ho:s.heap.get? a=some o) (ob:o.cls= .ref C/\o.dict=none/\o.data= .fields vs/\vs[2]? = some .none/\vs[1]? = some head)
  (h0:X.s₀.heap.get? a=none) (hL:a≠X.env.locals) (hcl: ∀ x c,X.env.cells.lookup x=some c->c≠a) (hp: ∀ p∈X.pn++pins,p.1≠a) (hj:X.N[j]? = some en) (hσ:σ[j]? = some (some (.ref a))) (hen:X.env.scope.names.lookup en=some .local)
  (FH:FnH X.prog X.w X.K X.mg X.base k fk fdk [pe] (zb9 X.K 1 Fk)) (hb:zaS X.K fdk [pe] []) (hg:Gl X gk) (hm:X.mg gk=some (.ref fk)) (kp:W.keepIn X.K (.ref fk)=true) (hr:zdM k X.A) (hc:zbO X.K c C) (hh:zbb X.K ι H h)
  (q:Fin X.K E0x ι (upd H a (.frz o (.own 0))) (Fk [.exn c] h) fun d ι' H'=> ∀ v,Rel X.K ι' H' d v->Qv v H') (hd:(gk==("__debug__":Str))=false:=by decide) (hd2:(en==("__debug__":Str))=false:=by decide):
  wpAny (model X.prog X.w) (X.A.mark (some (.ref a))) (eval (.Call (.Name gk p1) [.Name en p2] [] p3) X.env) (fun u s8=> ∃ v H8,Inv X pins σ H8 s8/\zby v u/\Qv v H8) (fun _ _=>False) s:=by
 have It:=I.track hH ho h0 hL hcl hp
 have E0':=It.env0
 refine wpAny_Call_Name_kw (Calls.Name_function_global I.ok.kind hg (Calls.loadGlobal_global (by rw [I.ok.glob];exact I.mod.glob.keeps I.bk) hm ?_) hd)
 refine W.callWith_K (h₀:=X.base) I.ok.mod.kin kp ?_
 refine Calls.spliced_cons ?_
 obtain ⟨m,hn,hl⟩:=It.loc
 obtain ⟨u,r,l⟩:=hl j en (.ref a) hj hσ (.inl hen)
 obtain rfl:u=Value.ref a:=r
 have hme:m en=some (.ref a):=by
  rcases l with ⟨_,e⟩ | ⟨e,_⟩
  ·exact e
  ·exfalso
   have e':X.env.scope.names.lookup en=some .cell\/X.env.scope.names.lookup en=some .free:=e
   rw [hen] at e'
   rcases e' with e' | e'<;>cases e'
 refine wpAny_Name (wpAny_loadName_local I.ok.kind hen hn hme ?_) hd2
 refine Calls.spliced_nil ⟨It.kIn,?_⟩
 have e0:zpB X.prog X.w X.K X.mg X.base (X.A.mark (some (.ref a))) X.stack s (upd H a (.frz o (.own 0))):=
  ⟨It.ok.frames,E0'.mod,E0'.bs,E0'.bsz,E0'.funs,E0'.frf,E0'.hok,E0'.bare,.inr ⟨a,o,.ref C,head,vs,rfl,zaH,ob⟩⟩
 have sp:zb9 X.K 1 Fk [.ref a] (upd H a (.frz o (.own 0))) Qv E0:=
  ⟨rfl,ι,h,[.exn c],zas.cons (by simp only [Rel];exact ⟨a,o,C,head,vs,rfl,⟨zaH,hh.nin hH⟩,hc,ob⟩) zas.nil,hh.laid hH,q⟩
 refine wpAny_call (codeAny_mono (FH.run (X.A.mark (some (.ref a))) X.stack s _ ⟨[.ref a],[]⟩ [.ref a] [.ref a] Qv ⟨hr.dp,hr.un⟩ e0 (hb s [.ref a] It.kIn rfl) (.cons rfl .nil) sp) fun r s' hq=> ?_)
 cases r with
 | error e=>exact qa0 hq
 | ok fl=>
  cases fl with
  | ret u=>exact It.after hq
  | next=>exact qa0 hq
  | brk=>exact qa0 hq
  | cont=>exact qa0 hq
end
noncomputable def zhu (known:List String) (gb:FS) (Fk:List D->M D):FS:=fun sd h=>match gb sd h with
 | .exc c h1=>if known.contains c=true then (do let d<-noX (Fk [.exn c]);pure (.rt d):M Out) h1 else .bad
 | r=>r
section
variable {X:Cx} {E:XE} {body:List Stmt} {ce en gk pe x:Str} {pce p1 p2 p3 p4 p5 hp pos:Pos} {CE fk:Addr} {fdk:FuncData} {Fk:List D->M D} {gb:FS} {j k i:Nat} {known:List String}
theorem zlT {st:Stmt} {fin:Sd->D->M Out} {gt:FS} (hgt: ∀ sd h,gt sd h=match gb sd h with
      | .exc c h1=>if known.contains c=true then (do let d<-noX (Fk [.exn c]);fin sd d:M Out) h1 else .bad
      | r=>r)
  (z:zeR X) (hN:X.N.Nodup) (hj:X.N[j]? = some en) (hen:X.env.scope.names.lookup en=some .local) (hg:Gl X ce) (hm:X.mg ce=some (.ref CE))
  (hkn: ∀ c∈known, ∀ C,zbO X.K c C->W.exmOne X.K (.ref C) (.ref CE)=some true) (hd:(ce==("__debug__":Str))=false)
  (hb: ∀ pn xe E',zdA (CXE X.prog X.w) (X.re pn xe) (zpE X.K E')->SSs (X.re pn xe) E' body gb)
  (hst: ∀ (X':Cx) (pins:List (Addr×Obj)) (σ:L2.St) (H:Hp) (s:Shared) (a:Addr) (D0:znv) (sd:Sd) (Q:Flow->Shared->Prop) (Ef:Value->Shared->Prop) (pn:List (Addr×Obj)) (xe:Value->Shared->Prop),X'=X.re pn xe->Inv X' pins (σ.set j (some (.ref a))) H s->sd.length=X.N.length->
    (∀ Qv:VK,(∀ d ι' H' h',zbb X.K ι' H' h'->Fin X.K E ι' H' (fin sd d h') (zfW X.K D0)-> ∀ v,Rel X.K ι' H' d v->Qv v H')->
      wpAny (model X.prog X.w) (X.A.mark (some (.ref a))) (eval (.Call (.Name gk p1) [.Name en p2] [] p3) X.env) (fun u s8=> ∃ v H8,Inv X' pins (σ.set j (some (.ref a))) H8 s8/\zby v u/\Qv v H8) (fun _ _=>False) s)->
    (∀ f s9,SP X' pins D0 f s9->Q f s9)->
    wpAny (model X.prog X.w) (X.A.mark (some (.ref a))) (execs [st] X.env) (fun f s4=>wpAny (model X.prog X.w) X.A (do bindName X.env en .none;unbindBehindTheSuite X.env en hp) (fun _ s5=>Q f s5) Ef s4) (fun _ _=>False) s)
  (FH:FnH X.prog X.w X.K X.mg X.base k fk fdk [pe] (zb9 X.K 1 Fk)) (hbk:zaS X.K fdk [pe] []) (hgk:Gl X gk) (hmk:X.mg gk=some (.ref fk)) (kp:W.keepIn X.K (.ref fk)=true) (hr:zdM k X.A) (hd2:(gk==("__debug__":Str))=false) (hd3:(en==("__debug__":Str))=false):
  SS X E (.Try body [.ExceptHandler (some (.Name ce pce)) (some en) [st] hp] [] [] pos) gt:=by
 intro pins s σ H D0 I ⟨ι,h,sd,L,hh,q⟩
 refine wpAny_Try_except ?_
 rw [hgt] at q
 let xe':Value->Shared->Prop:=fun e s₁=>wpAny (model X.prog X.w) X.A (noteFrame e X.env) (fun _ s₂=>wpAny (model X.prog X.w) X.A (setFlight e none) (fun _ s₃=>wpAny (model X.prog X.w) X.A (handleBy e X.env [.ExceptHandler (some (.Name ce pce)) (some en) [st] hp]) (SP X pins D0) X.xe s₃) X.xe s₂) X.xe s₁
 cases hres:gb sd h with
 | bad=>rw [hres] at q;exact qa0 q
 | ok o1 h1=>
  rw [hres] at q
  have run:=hb (X.pn++pins) xe'
   E0x (fun pins' σ' H1 s1 e s2 I1 hx=>by obtain ⟨a,C,H2,_,_,c,C',_,_,w⟩:=hx;exact w.elim) [] s σ H D0 (I.re _) ⟨ι,h,sd,L,hh,by rw [hres];exact q⟩
  refine qaZ run (fun f s1 hs=> ?_) fun _ _ w=>w
  have hs':=hs.unre
  cases f with
  | next=>exact wpAny_execs_nil hs'
  | ret u=>exact hs'
  | brk=>exact hs'
  | cont=>exact hs'
 | exc c h1=>
  rw [hres] at q
  by_cases hk:known.contains c=true
  ·simp only [hk,if_true] at q
   have run:=hb (X.pn++pins) xe'
    (fun c' H'=>c'=c/\ ∃ ι',zbA ι H ι' H'/\zbb X.K ι' H' h1) (fun pins' σ' H1 s1 e s2 I1 hx=>by
      obtain ⟨a,C,H2,rfl,y,c',C',e1,hc,rfl,ι',st1,hr1⟩:=hx
      cases e1
      have z':zeR (X.re (X.pn++pins) xe'):=⟨z.stk,z.frm,z.ex⟩
      obtain ⟨f1,f2,f3⟩:=y.fresh
      refine Fl.caught (X:=X.re (X.pn++pins) xe') (b₀:=st) (suite:=[]) (pce:=pce) (pos:=hp) (Q:=SP X pins D0) (E:=X.xe) z' I1 y hN hj hen hg hm (hkn c' (by simpa using hk) C hc) (fun s6 I6 ⟨head,x6⟩=> ?_) hd
      obtain ⟨o,vs,ho,ob⟩:=x6
      have hnil: ∀ b,b∉X.ex:=fun b h=>by rw [z.ex] at h;cases h
      refine hst _ pins' σ' H2 s6 a D0 sd (SP X pins D0) X.xe _ _ rfl I6 (L.1.trans I.len) (fun Qv hQ=> ?_) fun f s9 w=>w.unre
      have hσ:(σ'.set j (some (V.ref a)))[j]? = some (some (.ref a)):=qai (by rw [I1.len];exact (qac.mp hj).1)
      refine zjE (X:=X.re _ _) I6 f2 ho ob ?_ (fun w=> ?_) (fun x c e w=> ?_) (fun p hp w=> ?_) hj hσ hen FH hbk hgk hmk kp hr hc hr1 ?_ hd2 hd3
      · cases w:X.s₀.heap.get? a with
        | none=>exact w
        | some ob=>
          obtain ⟨o',e'⟩:=I1.base.there a ob w (hnil a)
          rw [f1] at e'
          cases e'
      · obtain ⟨m,⟨oL,_,_,hoL,_⟩,_⟩:=I1.loc
        have hoL:s1.heap.get? X.env.locals=some oL:=hoL
        rw [<- show a=X.env.locals from w,f1] at hoL
        cases hoL
      · obtain ⟨v,oc,hoc,_⟩:=I1.cell x c e
        rw [w,f1] at hoc
        cases hoc
      · have e:=(I1.pin p hp).1
        rw [w,f1] at e
        cases e
      · have q1:=Fin.step (st1.trans (hr1.laidS (o:= .frz o (.own 0)) f2)) q
        exact Fin.noX (Fin.bind q1 fun d h' ι8 H8 e8 s8 hr8 q8 v rv=>hQ d ι8 H8 h' hr8 q8 v rv))
    [] s σ H {nx:=fun _ _=>False,rt:=fun _ _=>False} (I.re _) ⟨ι,h,sd,L,hh,by rw [hres];exact fun ι' H' st1 hr1=>⟨rfl,ι',st1,hr1⟩⟩
   refine qaZ run (fun f s1 hs=> ?_) fun _ _ w=>w
   cases f with
   | next=>obtain ⟨_,_,_,w⟩:=hs;exact w.elim
   | brk=>obtain ⟨_,_,_,w⟩:=hs;exact w.elim
   | cont=>obtain ⟨_,_,_,w⟩:=hs;exact w.elim
   | ret u=>obtain ⟨_,_,_,_,_,w⟩:=hs;exact w.elim
  ·simp only [hk] at q
   exact qa0 q
theorem zrp (z:zeR X) (hN:X.N.Nodup) (hj:X.N[j]? = some en) (hen:X.env.scope.names.lookup en=some .local) (hg:Gl X ce) (hm:X.mg ce=some (.ref CE))
  (hkn: ∀ c∈known, ∀ C,zbO X.K c C->W.exmOne X.K (.ref C) (.ref CE)=some true)
  (hb: ∀ pn xe E',zdA (CXE X.prog X.w) (X.re pn xe) (zpE X.K E')->SSs (X.re pn xe) E' body gb)
  (FH:FnH X.prog X.w X.K X.mg X.base k fk fdk [pe] (zb9 X.K 1 Fk)) (hbk:zaS X.K fdk [pe] []) (hgk:Gl X gk) (hmk:X.mg gk=some (.ref fk)) (kp:W.keepIn X.K (.ref fk)=true) (hr:zdM k X.A)
  (hd:(ce==("__debug__":Str))=false:=by decide) (hd2:(gk==("__debug__":Str))=false:=by decide) (hd3:(en==("__debug__":Str))=false:=by decide):
  SS X E (.Try body [.ExceptHandler (some (.Name ce pce)) (some en) [.Return (some (.Call (.Name gk p1) [.Name en p2] [] p3)) p4] hp] [] [] pos) (zhu known gb Fk):=by
 refine zlT (fin:=fun _ d=>pure (.rt d)) (p1:=p1) (p2:=p2) (p3:=p3) (fun sd h=>rfl) z hN hj hen hg hm hkn hd hb (fun X' pins σ H s a D0 sd Q Ef pn xe hX I6 hl ev hQ=> ?_) FH hbk hgk hmk kp hr hd2 hd3
 subst hX
 refine wpAny_execs_cons ?_
 refine wpAny_Return_some (qaZ (ev (fun v H'=>D0.rt v H') fun d ι' H' h' hr1 q v rv=>Fin.out hr1 q v rv) (fun u s8 hv=> ?_) fun _ _ w=>w)
 obtain ⟨v,H8,I8,rv,qv⟩:=hv
 exact zpk (X:=X.re pn xe) I8 hN hj hen fun s9 I9=>hQ _ s9 ⟨v,_,H8,I9,rv,qv⟩
noncomputable def zh9 (c:String):FS:=fun _ h=> .exc c h
theorem zpj {c:String} {C:Addr} {nid:String} {msg:Str} {jj:Nat} {np cpos:Pos} (hc:X.calm=true) (hp:zpz X E) (hX:W.excIn X.K C zjp "ValueError.__new__"=true) (hcl:zbO X.K c C) (hg:Gl X (c:Str)) (hd:((c:Str)==("__debug__":Str))=false:=by decide):
  SS X E (.Raise (some (.Call (.Name (c:Str) np) [.Constant (.str msg) jj p2] [] cpos)) none pos) (zh9 c):=by
 intro pins s σ H D0 I ⟨ι,h,sd,L,hh,q⟩
 have hE:E c H:=q ι H (zbA.refl _ _) hh
 have hm:X.mg (c:Str)=some (.ref C):=W.mg_of I.ok.mod.kin I.ok.mod.glob hcl
 obtain ⟨tl,N,nm,qq,bs,hdct,sn,sub,ab,col,dd,k0,k1,k2,k3,k5,mN,hC,hNs,hni,T⟩:=(zoq (x:=(c:Str)) I.ok.mod.kin hm hX).obj
 refine wpAny_Raise_call_subT (C:=C) (nm:=nm) (q:=qq) (N:=N) (bs:=bs) (bm:=tl) (hdct:=hdct) (sn:=sn) (sub:=sub) (ab:=ab) (col:=col) (dd:=dd) (k0:=k0) (k1:=k1) (k2:=k2) (k3:=k3) (k5:=k5)
  PySem.F.excBase_ValueError (mN:=mN) (T.hasType PySem.F.excBase_ValueError.hasBase) (I.ok.hd hc) rfl hni (zg7 I hg hm ⟨rfl,?_⟩ hd)
 refine Calls.evalArgs_plain (x:=eval (.Constant (.str msg) jj p2) X.env) (rest:=[]) ?_
 refine Calls.spliced_cons (thn (znd pins s σ H (fun v H1=>H1=H) I rfl) fun u s1 hu=> ?_)
 obtain ⟨v,H1,I1,rv,rfl⟩:=hu
 refine Calls.spliced_nil ⟨rfl,by show 1<=sizeLine;decide,I1.bk _ _ hC,hNs.keeps I1.bk,T.keeps I1.bk,fun h' e m=> ?_⟩
 exact hp pins σ H1 s1 h' e C c _ I1 hcl m hE
end
end L3
namespace L3
open PySem PySem.W
theorem zgC {K:Frag} {C:Addr} {name:Str} {a g:Value} (hc:(clsIn K C).isSome=true) (ha:findIn K (.ref C) name=some (some a)) (hg:specialIn K a "__get__"=some (some g)) (ht:takesIn K a=some true):findObj K C none name=some (.bind g a):=by
 obtain ⟨cd,hc⟩:=Option.isSome_iff_exists.mp hc
 unfold findObj
 rw [hc,Option.bind_some,ha,Option.bind_some]
 simp [hg,ht]
section
variable {prog:Program} {w:World} {A:Around} {E:Value->Shared->Prop} {s:Shared} {K:Frag} {x D:Addr} {ox:Obj}
theorem zj3 {Q:Option Value->Shared->Prop} (X:K.In s.heap) (I:InstAt s.heap x ox D none) (hc:(clsIn K D).isSome=true) (hga:findIn K (.ref D) "__getattribute__"=some (some (.builtin "BaseException.__getattribute__"))) (hk:findIn K (.ref D) "__getattr__"=some none)
  (ha:findIn K (.ref D) "__class__"=some (some (.builtin "object.__class__"))) (hn:specialIn K (.builtin "object.__class__") "__get__"=some (some (.builtin "getset_descriptor.__get__"))) (htk:takesIn K (.builtin "object.__class__")=some true)
  (hm:mroIn K D (.type "object")=some true) (hmB:mroIn K D (.type "BaseException")=some true) (h:Q (some (.ref D)) {s with toks:=s.toks+1}):wpAny (model prog w) A (getAttr? (.ref x) "__class__") Q E s:=by
 obtain ⟨hh,g,d,t,os⟩:=s
 have L0:=I.type (M:=model prog w)
 have L1:=looks_findIn (M:=model prog w) X hga
 have L2:=looks_findIn (M:=model prog w) X hk
 have L3:=looks_find (M:=model prog w) X I (zgC hc ha hn htk)
 have LB:Looks (model prog w) hh (isInstance (.ref x) (.type "BaseException")) true:=L0.andThen (looks_mroIn X hmB)
 have f3:=PySem.F.attr_ValueError.ga.bind (.ref x)
 have hx2:(Value.builtin "BaseException.__getattribute__"==Value.builtin "object.__getattribute__")=false:=by decide +kernel
 unfold getAttr? getAttrBy? getAttrBy
 refine qaW (wpAny_mkText (qaW (wpAny_attempt (qaO (qaW (L0.at (qaW (L1.at ?_))))))))
 dsimp only
 rw [hx2,Bool.and_false,qa5 Bool.false_ne_true]
 unfold getAttrByItsOwn hookBefore
 rw [qa4 (show onTheHeap (Value.ref D)=true from rfl)]
 refine qaW (L2.at ?_)
 refine qaW (wpAny_attempt (qaO ?_))
 unfold callGetattribute
 rw [qa5 (by simp)]
 unfold boundAndCalled
 rw [f3]
 refine qaW (qaX ?_)
 refine wpAny_call (codeAny_call_builtin PySem.F.attr_ValueError.ga.plain PySem.F.entry_bexc_ga ?_)
 have kd:builtinKind "BaseException.__getattribute__"=some .slot:=by decide +kernel
 have sp:splitId "BaseException.__getattribute__"=some ("BaseException","__getattribute__"):=by decide +kernel
 have ag:=PySem.F.args_bexc_ga (.ref x) (.str "__class__" t)
 simp only [checkBuiltinCall,kd,sp]
 refine qaW (LB.at ?_)
 rw [qa5 (by decide)]
 refine wpAny_of_eq (a:=()) ag ?_
 unfold Builtin.«object.__getattribute__»
 refine qaW (qaX ?_)
 refine qaW (qaX ?_)
 refine qaW (L0.at ?_)
 refine qaW (L3.at ?_)
 dsimp only
 unfold Builtin.ObjectAttr.bindTo
 dsimp only
 refine qaW (qaO (wpAny_call (class_get (s:=⟨hh,g,d,t+1,os⟩) X I hm ?_)))
 refine qaX ?_
 dsimp only
 refine wpAny_of_eq (a:=Value.ref D) rfl ?_
 exact qaX h
end
end L3
namespace L3
open PySem PySem.Spec PyProof.Rows L2
noncomputable def kxb (K:W.Frag) (C:Addr):Bool:=(W.clsIn K C).isSome && W.findIn K (.ref C) "__getattribute__"==some (some (.builtin "BaseException.__getattribute__")) && W.findIn K (.ref C) "__getattr__"==some none && W.findIn K (.ref C) "__class__"==some (some (.builtin "object.__class__"))
 && W.specialIn K (.builtin "object.__class__") "__get__"==some (some (.builtin "getset_descriptor.__get__")) && W.takesIn K (.builtin "object.__class__")==some true && W.mroIn K C (.type "object")==some true && W.mroIn K C (.type "BaseException")==some true
theorem zlt {K:W.Frag} {x C:Addr} {ox:Obj} (h:kxb K C=true):W.KitX K (.ref x) (.ref C) (fun h=>W.InstAt h x ox C none):=by
 unfold kxb at h
 simp only [qaG,beq_iff_eq] at h
 obtain ⟨⟨⟨⟨⟨⟨⟨h1,h2⟩,h3⟩,h4⟩,h5⟩,h6⟩,h7⟩,h8⟩:=h
 refine ⟨fun _ _ _ I=>I.type,fun M hp X _=> ?_,fun hp tp dd its n sl X htp=> ?_,fun X I k=>zj3 X I h1 h2 h3 h4 h5 h6 h7 h8 k⟩
 ·obtain ⟨cd,hc⟩:=Option.isSome_iff_exists.mp h1
  unfold W.clsIn at hc
  split at hc
  ·rename_i lk
   intro A' Q' E' s' k q
   unfold isType loadHead
   exact qaW (wpAny_loadPart (k _ _ (X _ _ lk)) (qaX q))
  ·cases hc
 ·refine Bool.eq_false_iff.mpr fun q=> ?_
  have e:C=tp:=Value.ref.inj (beq_iff_eq.mp q)
  subst e
  obtain ⟨cd,hc⟩:=Option.isSome_iff_exists.mp h1
  unfold W.clsIn at hc
  split at hc
  ·rename_i lk
   have z:=(X _ _ lk).symm.trans htp
   cases z
  ·cases hc
structure ztl (K:W.Frag) (CE:Addr) (names:List String) (c:String) (C:Addr):Prop where
 exc:W.excIn K C zjp "ValueError.__new__"=true
 cov:W.exmOne K (.ref C) (.ref CE)=some true
 kx:kxb K C=true
 ve:W.kitOne K (.ref C) (.type "ValueError")=some true
 one: ∀ c'∈names, ∀ C',zbO K c' C'->W.kitOne K (.ref C) (.ref C')=some (c==c')
def zlf (K:W.Frag) (CE:Addr) (names:List String):Prop:= ∀ c∈names, ∀ C,zbO K c C->ztl K CE names c C
noncomputable def zka (K:W.Frag) (CE:Addr) (tab:List (String×Addr)):Bool:=tab.all fun p=>W.nsIn K mainGlobals (p.1:Str)==some (some (.ref p.2)) && W.excIn K p.2 zjp "ValueError.__new__" && W.exmOne K (.ref p.2) (.ref CE)==some true && kxb K p.2 && W.kitOne K (.ref p.2) (.type "ValueError")==some true
 && tab.all fun r=>W.kitOne K (.ref p.2) (.ref r.2)==some (p.1==r.1)
theorem zlf.of {K:W.Frag} {CE:Addr} {tab:List (String×Addr)} (h:zka K CE tab=true):zlf K CE (tab.map (·.1)):=by
 unfold zka at h
 rw [List.all_eq_true] at h
 have key: ∀ c∈tab.map (·.1), ∀ C,zbO K c C->(c,C)∈tab:=fun c hc C hC=>by
  obtain ⟨p,hp,rfl⟩:=qaU.mp hc
  have h1:=h p hp
  simp only [qaG,beq_iff_eq] at h1
  have e:=h1.1.1.1.1.1
  unfold zbO at hC
  rw [hC] at e
  cases e
  exact hp
 intro c hc C hC
 have h1:=h _ (key c hc C hC)
 simp only [qaG,beq_iff_eq,List.all_eq_true] at h1
 obtain ⟨⟨⟨⟨⟨a1,a2⟩,a3⟩,a4⟩,a5⟩,a6⟩:=h1
 exact ⟨a2,a3,a4,a5,fun c' hc' C' hC'=>a6 _ (key c' hc' C' hC')⟩
theorem zlf.known {K:W.Frag} {CE:Addr} {names:List String} (h:zlf K CE names): ∀ c∈names, ∀ C,zbO K c C->W.exmOne K (.ref C) (.ref CE)=some true:=fun c hc C hC=>(h c hc C hC).cov
noncomputable def zjb (names:List String) (T:String):D->M D
 | .exn c=>if names.contains c && names.contains T then pure (.bl (c==T)) else M.bad
 | _=>M.bad
noncomputable def zqw (names:List String):D->M D
 | .exn c=>if names.contains c then pure (.bl true) else M.bad
 | _=>M.bad
section
variable {X:Cx} {E:XE}
theorem zim:zaZ X (.builtin "isinstance") (fun xs H Q=> ∃ a o C vs x u b,xs=[.ref a,x]/\H a=some (.frz o (.own 0))/\(o.cls= .ref C/\o.dict=none/\o.data= .fields vs)/\kxb X.K C=true/\zby x u/\(∀ u',zby x u'->u'=u)/\W.kitOne X.K (.ref C) u=some b/\Q (.bl b) H):=by
 intro pins s σ H xs us Q I r h
 obtain ⟨a,o,C,vs,x,u,b,rfl,hH,⟨o1,o2,o3⟩,hk,hu,hu2,e,q⟩:=h
 cases r with
 | cons r1 r2=>
  cases r2 with
  | cons r3 r4=>
   cases r4
   cases r1
   have:=hu2 _ r3
   subst this
   have ho:=(I.hok a _ hH).1
   refine W.kia_one (zlt (x:=a) (ox:=o) hk) I.kIn ⟨ho,o1,by unfold W.notCls;rw [o3],by rw [o2];trivial⟩ e (fun z=>nomatch z) fun tk=>⟨.bl b,H,I.tok tk,rfl,q⟩
variable {a:Expr} {p1 p2 pos:Pos} {fa:FE} {CE CC:Addr} {names:List String}
theorem zeC {c':String} (hx:zlf X.K CE names) (hc':names.contains c'=true) (hcl:zbO X.K c' CC) (hm:X.mg "isinstance"=none) (hmC:X.mg (c':Str)=some (.ref CC)) (ha:SE X E a fa) (hg:Gl X "isinstance":=by rfl) (hgC:Gl X (c':Str):=by rfl)
  (hd:((c':Str)==("__debug__":Str))=false:=by decide)
  (h1:starEach [a,.Name (c':Str) p2] X.env=(false,eval a X.env)::starEach [.Name (c':Str) p2] X.env:=by rfl) (h2:starEach [.Name (c':Str) p2] X.env=[(false,eval (.Name (c':Str) p2) X.env)]:=by rfl)
  (hpl:(backTo pos (starEach [.Name (c':Str) p2] X.env)).any (·.1)=false:=by rfl):
  SE X E (.Call (.Name "isinstance" p1) [a,.Name (c':Str) p2] [] pos) (cUn (zjb names c') fa):=by
 refine PE.imp (zdz zim hg hm PyProof.Rows.boot_isinstance (zbs ha (zbs (zpe (v:= .ref CC) hgC hmC rfl hd) zcU h2) h1) (he:=h1) (hpl:=hpl)) fun σ H Q ⟨ι,h,sd,L,hh,q⟩=>⟨ι,h,sd,L,hh,Fin.bind q fun d h1 ι1 H1 e1 s1 hr1 q1 v rv=> ?_⟩
 cases d with
 | exn c=>
  obtain ⟨hg1,q2⟩:=Fin.guard (show Fin X.K E ι1 H1 ((if (names.contains c && names.contains c')=true then (pure (.bl (c==c')):M D) else M.bad) h1) _ from q1)
  rw [qaG] at hg1
  simp only [Rel] at rv
  obtain ⟨b,o,C,head,vs,rfl,⟨r1,_⟩,r2,r3,r4,r5,_⟩:=rv
  have ok:=hx c (by simpa using hg1.1) C r2
  exact ⟨b,o,C,vs,.ref CC,.ref CC,c==c',rfl,r1,⟨r3,r4,r5⟩,ok.kx,rfl,fun u' z=>z,ok.one c' (by simpa using hc') CC hcl,Fin.out hr1 q2 _ (by simp [Rel])⟩
 | _=>exact qa0 q1
theorem zqQ (hx:zlf X.K CE names) (hm:X.mg "isinstance"=none) (hmT:X.mg "ValueError"=none) (ha:SE X E a fa) (hg:Gl X "isinstance":=by rfl) (hgT:Gl X "ValueError":=by rfl)
  (h1:starEach [a,.Name "ValueError" p2] X.env=(false,eval a X.env)::starEach [.Name "ValueError" p2] X.env:=by rfl) (h2:starEach [.Name "ValueError" p2] X.env=[(false,eval (.Name "ValueError" p2) X.env)]:=by rfl)
  (hpl:(backTo pos (starEach [.Name "ValueError" p2] X.env)).any (·.1)=false:=by rfl):
  SE X E (.Call (.Name "isinstance" p1) [a,.Name "ValueError" p2] [] pos) (cUn (zqw names) fa):=by
 refine PE.imp (zdz zim hg hm PyProof.Rows.boot_isinstance (zbs ha (zbs (zlb (v:= .ty "ValueError") hgT hmT (by decide +kernel) rfl) zcU h2) h1) (he:=h1) (hpl:=hpl)) fun σ H Q ⟨ι,h,sd,L,hh,q⟩=>⟨ι,h,sd,L,hh,Fin.bind q fun d h1 ι1 H1 e1 s1 hr1 q1 v rv=> ?_⟩
 cases d with
 | exn c=>
  obtain ⟨hg1,q2⟩:=Fin.guard (show Fin X.K E ι1 H1 ((if names.contains c=true then (pure (.bl true):M D) else M.bad) h1) _ from q1)
  simp only [Rel] at rv
  obtain ⟨b,o,C,head,vs,rfl,⟨r1,_⟩,r2,r3,r4,r5,_⟩:=rv
  have ok:=hx c (by simpa using hg1) C r2
  exact ⟨b,o,C,vs,.ty "ValueError",.type "ValueError",true,rfl,r1,⟨r3,r4,r5⟩,ok.kx,rfl,fun u' z=>z,ok.ve,Fin.out hr1 q2 _ (by simp [Rel])⟩
 | _=>exact qa0 q1
end
end L3
namespace L3
open PySem
section
variable {prog:Program} {w:World} {A:Around} {E:Value->Shared->Prop} {s:Shared}
theorem zlL {l:Addr} {xs:Array (Int×Tok)} {Q:Value->Shared->Prop} (hh:zf9 A s.heap) (hl:s.heap.IsList l (intItems xs))
  (k: ∀ h' tk t',(∀ b o,s.heap.get? b=some o->h'.get? b=some o)->Q (.int (preSum (numAt xs) xs.size) t') {s with heap:=h',toks:=tk}):wpAny (model prog w) A (call (.builtin "sum") [.ref l]) Q E s:=by
 refine call_sum_walkG (iter_intList hl fun s₂ e st hfp hlI=> ?_)
 subst e
 rcases hh with hh | ⟨ha,cls,head,hh,hX⟩
 ·refine ⟨_,_,_,_,_,_,numAt xs,rfl,Walks.list (A:=A.in1) hh _ l hlI (intItems xs),st,hfp,(fun _ _=>intItems_at),fun h' tk t' hk=> ?_⟩
  simpa [intItems] using k h' tk t' (old_kept hk)
 ·obtain ⟨ob,vs,x1,x2⟩:=id hX
  have hX2:=hX.keep (h':=s.heap.push {cls:= .type "list_iterator",data:= .fields #[.ref l,.int 0 0]}) fun o e=>qag _ e
  refine ⟨_,_,_,_,_,_,numAt xs,rfl,ziJ (A:=A.in1) (ha:=ha) (cls:=cls) (head:=head) hh _ l hlI (qaR (qaQ x1)) (intItems xs),⟨st.1,st.2,hX2⟩,fun b hb=> ?_,(fun _ _=>intItems_at),fun h' tk t' hk=> ?_⟩
  ·simp only [qaP,qaF,or_false] at hb
   rcases hb with z | z | z
   ·exact hfp b (by simp [z])
   ·exact hfp b (by simp [z])
   ·rw [z]
    show ha<(s.heap.push _).objs.size
    rw [qaL]
    exact Nat.lt_succ_of_lt (qaQ x1)
  ·simpa [intItems] using k h' tk t' (old_kept hk)
end
end L3
namespace L2
open PySem PySem.Spec PyProof.Rows L3
section
variable {X:Cx}
theorem ziD:MtM X "list.extend" (fun x vs H Q=> ∃ l b xs zs,x= .ref l/\vs=[.ref b]/\H l=some (.lst xs)/\SqT X.K H b zs/\xs.length+zs.length<=sizeLine/\Q .non (upd H l (.lst (xs++zs)))):=by
 intro pins s σ H x vs v us Q I rx rv h
 obtain ⟨l,b,xs,zs,rfl,rfl,hH,hB,hz,q⟩:=h
 cases rx
 obtain ⟨u,rfl,ru⟩:=zef rv
 cases ru
 obtain ⟨z,its,n,r,hl,e⟩:=I.lstM hH
 obtain ⟨its2,r2,⟨ob,e2,c2,n2,d2⟩,z2⟩:=I.tuple hB
 have l2:=r2.length
 have hsz:its.toArray.size+its2.toArray.size<=sizeLine:=by rw [qaA,qaA];omega
 refine wpAny_call (codeAny_call_builtin F.slot_list_extend.plain F.entry_list_extend (F.slot_list_extend.check _ _ _ _ _ _ _ _ ⟨_,e,rfl⟩ (F.args_list_extend_2 _ _) ?_))
 unfold Builtin.«list.extend»
 refine qaW (qaX ?_)
 unfold Builtin.List.listExtendWith
 refine qaW (wpAny_typeOf ⟨ob,e2,c2⟩ ?_)
 have h1:(Builtin.List.listSameRef (.ref l) (.ref b) || Value.type "tuple"==Value.type "list" || Value.type "tuple"==Value.type "tuple")=true:=by simp
 simp only [h1,if_true]
 unfold Builtin.List.listItems
 refine qaW (qaW (wpAny_seqItems e2 d2 (qaX ?_)))
 refine qaW (qaW (wpAny_seqItems e rfl (qaX ?_)))
 rw [qa5 (by rw [zh4 hsz,Bool.and_false];exact Bool.false_ne_true)]
 refine qaW (wpAny_updateSeq e rfl ?_ (by rw [qaA];omega))
 refine qaX ?_
 refine ⟨.non,_,I.lset (its':=its++its2) hH e (by simp) (r.append r2) ?_,rfl,q⟩
 rw [qav]
 omega
theorem zk5:zaZ X (.builtin "sum") (fun xs H Q=> ∃ (a:Addr) (ns:List Int),xs=[.ref a]/\SqL X.K H a (ns.map V.int)/\Q (.int ns.sum) H):=by
 intro pins s σ H xs us Q I r h
 obtain ⟨a,ns,rfl,hq,q⟩:=h
 obtain ⟨u,rfl,rx⟩:=zef r
 cases rx
 obtain ⟨its,r',pl,hz⟩:=I.list hq
 have hi:=zcA r'
 obtain ⟨ys,hy⟩:=hi.allInts.items
 have hl:s.heap.IsList a (intItems ys):=hy▸pl.isList
 refine zlL I.hand hl fun h' tk t' hk=> ?_
 have e1:ns=ys.toList.map (·.1):=by
  rw [<- nums_intItems, <-hy]
  exact (show numsOf its.toArray.toList=ns from hi.numsOf).symm
 have e2:preSum (numAt ys) ys.size=ns.sum:=by rw [preSum_eq,List.take_of_length_le (by simp),e1]
 rw [e2]
 exact ⟨.int ns.sum,H,I.grown (s':={s with heap:=h',toks:=tk}) rfl rfl hk,⟨t',rfl⟩,q⟩
theorem zfe: ∀ {bs:List Bool} {its:List Value},zbm (bs.map V.bl) its->its=bs.map Value.bool
 | [],_,h=>by cases h;rfl
 | b::bs,_,h=>by
  cases h with
  | cons r t=>cases r;rw [zfe t];rfl
theorem zjW:MtR X "list.index" (fun x vs H Q=> ∃ (l:Addr) (bs:List Bool) (j:Nat),x= .ref l/\vs=[.bl true]/\SqL X.K H l (bs.map V.bl)/\bs[j]? = some true/\(∀ m,m<j->bs[m]? = some false)/\Q (.int (j:Int)) H):=by
 intro pins s σ H x vs v us Q I rx rv h
 obtain ⟨l,bs,j,rfl,rfl,hq,hj,hno,q⟩:=h
 cases rx
 obtain ⟨u,rfl,ru⟩:=zef rv
 cases ru
 obtain ⟨its,r,pl,hz⟩:=I.list hq
 have eit:=zfe r
 subst eit
 obtain ⟨ob,e1,c1,n1,d1⟩:=pl.isList
 obtain ⟨cc,dd,dt,sl⟩:=ob
 dsimp only at c1 d1
 subst c1 d1
 have hlt:j<bs.length:=(qac.mp hj).1
 rw [qaH] at hz
 have sz:(j:Int)<2^63 - 1:=by
  have:sizeLine<2^40:=by decide
  omega
 refine call_meets F.slot_list_index ⟨_,e1,rfl⟩ F.entry_list_index (F.args_list_index_2 _ _)
  (PySem.SeqAt.list_indexAt l _ n1 dd sl (.bool true) (fun v=>match v with | .bool b=>b | _=>false) j (by simpa using hlt) sz ?_ ?_) ⟨e1,fun y hy=> ?_,⟨.int j,H,I.tok _,⟨_,rfl⟩,q⟩⟩
 ·have:=(qac.mp hj).2
  simp [this]
 ·intro m hm hmj
  have:=(qac.mp (hno m hmj)).2
  simp [this]
 ·obtain ⟨b,_,rfl⟩:=qaU.mp (List.mem_toArray.mp hy)
  have:=PySem.SeqAt.EqAt.bool_bool (A:=X.A.in1) (s:=s) b true
  simpa using this
end
end L2
namespace L3
open PySem PySem.Spec PyProof.Rows L2
noncomputable def zuF (f:FE):FE:=fun sd=>noX (f sd)
noncomputable def zsC (f:FS):FS:=fun sd=>noX (f sd)
section
variable {X:Cx} {E:XE} {a e o:Expr} {es:List Expr} {pos p cpos apos:Pos} {f fo fe fa:FE} {fs:FA} {x:Str}
theorem zjj {k:Nat} {g:Addr} {fd:FuncData} {ps:List Str} {n:Nat} {F:List D->M D} (G:zb6 X.prog X.w X.K X.mg X.base (CXE X.prog X.w) k g fd ps (spE X.K n F)) (hx:zdA (CXE X.prog X.w) X (zpE X.K E)) (hr:zdN k X.A) (hm:X.mg x=some (.ref g)) (hk:W.keepIn X.K (.ref g)=true) (hb:zaS X.K fd ps [])
  (ha:SA X E (e::es) fs) (hg:Gl X x:=by rfl) (hdb:(x==("__debug__":Str))=false:=by decide) (he:starEach (e::es) X.env=(false,eval e X.env)::starEach es X.env:=by rfl) (hpl:(backTo pos (starEach es X.env)).any (·.1)=false:=by rfl):
  SE X E (.Call (.Name x p) (e::es) [] pos) (zaT (zay n F) fs):=zlI G hx hr hg hm hk hb ha hdb he hpl
theorem zeq {k:Nat} {g:Addr} {fd:FuncData} {ps:List Str} {n:Nat} {F:List D->M D} (G:zb6 X.prog X.w X.K X.mg X.base CX0 k g fd ps (zb9 X.K n F)) (hr:zdN k X.A) (hm:X.mg x=some (.ref g)) (hk:W.keepIn X.K (.ref g)=true) (hb:zaS X.K fd ps [])
  (ha:SA X E (e::es) fs) (hg:Gl X x:=by rfl) (hdb:(x==("__debug__":Str))=false:=by decide) (he:starEach (e::es) X.env=(false,eval e X.env)::starEach es X.env:=by rfl) (hpl:(backTo pos (starEach es X.env)).any (·.1)=false:=by rfl):
  SE X E (.Call (.Name x p) (e::es) [] pos) (zaT (zay n fun ds=>noX (F ds)) fs):=zlY G hr hg hm hk hb ha hdb he hpl
theorem znk {st:Stmt} {g:FS} (h:SS X.nox E0x st g):SS X E st (zsC g):=by
 intro pins s σ H D0 I ⟨ι,h2,sd,L,hh,q⟩
 exact qaZ (h pins s σ H D0 (I.wish _) ⟨ι,h2,sd,L,hh,Fin.noX q⟩) (fun _ _ q=>q.unwish) fun _ _ z=>qa0 z
theorem zpr {c:String} {C CE:Addr} {names:List String} {msg:Str} {jj:Nat} {np p2:Pos} (hc:X.calm=true) (hp:zpz X E) (hX:zlf X.K CE names) (hn:names.contains c=true) (hcl:zbO X.K c C) (hg:Gl X (c:Str):=by rfl) (hd:((c:Str)==("__debug__":Str))=false:=by decide):
  SS X E (.Raise (some (.Call (.Name (c:Str) np) [.Constant (.str msg) jj p2] [] cpos)) none pos) (zh9 c):=zpj (nid:="") hc hp (hX c (by simpa using hn) C hcl).exc hcl hg hd
theorem zo4 {scope:Scope} {N:List Str} {src:List (Option Nat)} {tg iter elt:Expr} {ifs:List Expr} {fi:FA} {g:D->Sd->M Sd} {tc:FT} {te:FE} (B:BOk X scope N src) (hk:zaC g src) (hi:SI X E tg iter fi)
  (hg: ∀ s H fp,SG (cxB X scope N s H fp) E tg g) (ht: ∀ s H fp,SCs (cxB X scope N s H fp) E ifs tc) (he: ∀ s H fp,SE (cxB X scope N s H fp) E elt te)
  (hs: ∀ x,foldedSetIterable iter X.env x=pure x:=by intro _;rfl):SE X E (.ListComp elt [⟨tg,iter,ifs,0⟩] scope pos) (zaK fi g tc te src):=zk3 B hk hi hg ht he hs
noncomputable def znE:List D->M D
 | [.int i]=>pure (.int i)
 | [.bl b]=>pure (.int (if b then 1 else 0))
 | _=>M.bad
theorem ziC:zaZ X (.type "int") (zhU X.K E znE):=by
 refine zaZ.imp zjs fun xs H Q ⟨ι,h,ds,rl,hr,q⟩=> ?_
 unfold znE at q
 split at q
 ·simp only [zas,Rel] at rl
  obtain ⟨v,r,rfl,rfl,rfl⟩:=rl
  exact .inl ⟨_,rfl,Fin.out hr q _ (by simp [Rel])⟩
 ·simp only [zas,Rel] at rl
  obtain ⟨v,r,rfl,rfl,rfl⟩:=rl
  exact .inr ⟨_,rfl,Fin.out hr q _ (by simp [Rel])⟩
 ·exact qa0 q
theorem ziY:zaZ X (.builtin "sum") (zhU X.K E zuf):=by
 refine zaZ.imp zk5 fun xs H Q ⟨ι,h,ds,rl,hr,q⟩=> ?_
 obtain ⟨d,v,e,r,q⟩:=zc1 rl q
 cases d with
 | lst ds=>
  obtain ⟨a,vs,e',h1,h2⟩:=zeb r
  obtain ⟨ns,en,q⟩:=Fin.ofOb q
  have:=zdH h2 en
  subst this
  exact ⟨a,ns,by rw [e,e'],h1,Fin.out hr q _ (by simp [Rel])⟩
 | _=>exact qa0 q
noncomputable def zqM:D->M D
 | .lst ds=>do
  let bs<-ofO (zlp ds)
  let j<-ofO (bs.findIdx? id)
  pure (.int j)
 | _=>M.bad
theorem zn9 {jj:Nat} {p2:Pos} (ho:SE X E o fo)
  (hbase:attributeBase o "index" X.env (eval o X.env)=eval o X.env:=by rfl)
  (hfew:((backTo cpos (starEach [.Constant (.bool true) jj p2] X.env)).all (fun x=> !x.1) && (backToKw cpos (keywordEach [] X.env)).all (fun x=>x.1.isSome)
    && decide (([.Constant (.bool true) jj p2]:List Expr).length+([]:List Keyword).length+(if ([]:List Keyword).isEmpty then 0 else 1)<30))=true:=by rfl)
  (hline:(apos.endLine==cpos.line)=true:=by rfl) (hs:starEach [.Constant (.bool true) jj p2] X.env=(false,eval (.Constant (.bool true) jj p2) X.env)::starEach [] X.env:=by rfl) (hplain:(backTo cpos (starEach [] X.env)).any (·.1)=false:=by rfl):
  SE X E (.Call (.Attribute o "index" apos) [.Constant (.bool true) jj p2] [] cpos) (cUn zqM fo):=by
 refine PE.imp (zlQ PySem.F.plainAttrs_list PySem.F.slot_list_index PySem.F.type_list_index zjW ho (zbs zrC zcU hs) hbase hfew hline hs hplain) fun σ H Q ⟨ι,h,sd,L,hh,q⟩=>⟨ι,h,sd,L,hh,Fin.bind q fun d h1 ι1 H1 e1 s1 hr1 q1 v rv=> ?_⟩
 cases d with
 | lst ds=>
  obtain ⟨a,vs,e',h1',h2⟩:=zeb rv
  obtain ⟨bs,en,q2⟩:=Fin.ofOb q1
  obtain ⟨j,ej,q3⟩:=Fin.ofOb q2
  have:=zfI h2 en
  subst this
  subst e'
  refine ⟨.inl ⟨rfl,_,h1'⟩,a,bs,j,rfl,rfl,h1',?_,fun m hm=> ?_,Fin.out hr1 q3 _ (by simp [Rel])⟩
  ·obtain ⟨h3,h4,_⟩:=List.findIdx?_eq_some_iff_getElem.mp ej
   rw [qaf h3]
   simpa using h4
  ·obtain ⟨h3,h4,h5⟩:=List.findIdx?_eq_some_iff_getElem.mp ej
   rw [qaf (by omega)]
   simpa using h5 m hm
 | _=>exact qa0 q1
noncomputable def zdj (x y:D):M D:=match x,y with
 | .cel n,.tup zs=>do
  let ds<-zao n
  fits (ds.length+zs.length)
  zbE n (ds++zs)
  pure .non
 | _,_=>M.bad
noncomputable def zg6 (fo fe:FE):FE:=fun sd=>do
 let x<-fo sd
 zd7 x
 let y<-fe sd
 zdj x y
theorem zmm (ho:SE X E o fo) (he:SE X E e fe)
  (hbase:attributeBase o "extend" X.env (eval o X.env)=eval o X.env:=by rfl)
  (hfew:((backTo cpos (starEach [e] X.env)).all (fun x=> !x.1) && (backToKw cpos (keywordEach [] X.env)).all (fun x=>x.1.isSome)
    && decide (([e]:List Expr).length+([]:List Keyword).length+(if ([]:List Keyword).isEmpty then 0 else 1)<30))=true:=by rfl)
  (hline:(apos.endLine==cpos.line)=true:=by rfl) (hs:starEach [e] X.env=(false,eval e X.env)::starEach [] X.env:=by rfl) (hplain:(backTo cpos (starEach [] X.env)).any (·.1)=false:=by rfl):
  SE X E (.Call (.Attribute o "extend" apos) [e] [] cpos) (zg6 fo fe):=by
 refine PE.imp (zlQ PySem.F.plainAttrs_list PySem.F.slot_list_extend PySem.F.type_list_extend ziD ho (zbs he zcU hs) hbase hfew hline hs hplain) fun σ H Q ⟨ι,h,sd,L,hh,q⟩=>⟨ι,h,sd,L,hh,Fin.bind q fun d h1 ι1 H1 e1 s1 hr1 q1 v rv=> ?_⟩
 cases d with
 | cel n=>
  have q2:Fin X.K E ι1 H1 ((zao n>>=fun _=>fe sd>>=fun y=>zdj (.cel n) y) h1) (fun d ι' H'=> ∀ v,Rel X.K ι' H' d v->Q v H'):=by
   have ee:(zd7 (.cel n)>>=fun _=>fe sd>>=fun y=>zdj (.cel n) y:M D)=(zao n>>=fun _=>fe sd>>=fun y=>zdj (.cel n) y):=by
    show ((zao n>>=fun _=>pure ())>>=fun _=>fe sd>>=fun y=>zdj (.cel n) y)=_
    simp only [bind_assoc,pure_bind]
   rw [<- ee]
   exact q1
  obtain ⟨ds,e2,q3⟩:=zfY q2
  obtain ⟨a,vs,rfl,hn,hH,rl⟩:=hr1.read rv e2
  refine ⟨.inl ⟨rfl,vs,SqL.of hH⟩,ι1,h1,sd,L.step s1,hr1,Fin.bind q3 fun y h3 ι3 H3 e3 s3 hr3 q4 w rw'=> ?_⟩
  have rv3:=rv.step s3
  cases y with
  | tup zs=>
   have q5:Fin X.K E ι3 H3 ((zao n>>=fun ds=>fits (ds.length+zs.length)>>=fun _=>zbE n (ds++zs)>>=fun _=>pure D.non) h3) (fun d ι' H'=> ∀ v,Rel X.K ι' H' d v->Q v H'):=q4
   obtain ⟨ds3,e4,q6⟩:=zfY q5
   obtain ⟨a3,vs3,ea,hn3,hH3,rl3⟩:=hr3.read rv3 e4
   cases ea
   obtain ⟨b,ws,eb,hb,rlb⟩:=zdc rw'
   obtain ⟨z,q7⟩:=Fin.fits q6
   refine ⟨a,b,vs3,ws,rfl,by rw [eb],hH3,hb,by rw [<- rl3.length, <-rlb.length];exact z,?_⟩
   have q8:Fin X.K E ι3 H3 (R.ok D.non (h3.set n (.lst (ds3++zs)))) (fun d ι' H'=> ∀ v,Rel X.K ι' H' d v->Q v H'):=q7
   exact q8 ι3 _ (hr3.cellS hn3) (hr3.cell hn3 (rl3.append rlb)) _ (by simp [Rel])
  | _=>exact qa0 q4
 | _=>exact qa0 q1
end
section
variable {P:Program} {w:World} {K:W.Frag} {mg:Str->Option Value} {base:Heap}
theorem zqS {x qual:Str} {st:Stmt} {f:Addr} {fd:FuncData} {N ps:List Str} {k:Nat} {G:Sd->M Out} (F:Fun K x qual st f fd) (S:zau N ps (zae st))
  (hb: ∀ (cdv:Value) (A:Around) (outer:List Env) (s:Shared) (H:Hp),zdM k (A.deeper (envOfC qual (zae st) s.heap.objs.size f cdv))->SSs ({zg4 CX0 P w K mg base N qual (zae st) f cdv A outer s H E0 with calm:=false}:Cx).nox E0x (zcq st) G):
  FnH P w K mg base (k+1) f fd ps (zb9 K ps.length (zc4 N.length G)):=by
 obtain ⟨oc,od,kV,doc,pm,an,cdv,ct,osl,rfl,lk,hcd⟩:=F.ex
 refine zpP lk hcd S (fun vs H Q E h=>h.1) fun A outer s H vs Q hr ⟨hl,ι,h,ds,rl,hh,q⟩=>⟨_,hb cdv A outer s H hr,ι,h,zfn N.length ds,zdR rl,hh,?_⟩
 refine Fin.bind q fun o h1 ι1 H1 e1 s1 hr1 q1=> ?_
 cases o with
 | nx sd=>exact fun σ' _=>Fin.out hr1 q1 _ (by simp [Rel])
 | rt d=>exact fun v rv=>Fin.out hr1 q1 v rv
 | bk sd=>exact qa0 q1
 | ct sd=>exact qa0 q1
end
section
variable {X:Cx} {E:XE} {body:List Stmt} {ce en gk pe x:Str} {pce p1 p2 p3 p4 p5 hp pos:Pos} {CE fk:Addr} {fdk:FuncData} {Fk:List D->M D} {gb:FS} {k:Nat} {known:List String}
theorem zq5 (j:Nat) (z:zeR X) (hN:X.N.Nodup) (hm:X.mg ce=some (.ref CE)) (hkn:zlf X.K CE known)
  (FH:FnH X.prog X.w X.K X.mg X.base k fk fdk [pe] (zb9 X.K 1 Fk)) (hbk:zaS X.K fdk [pe] []) (hmk:X.mg gk=some (.ref fk)) (kp:W.keepIn X.K (.ref fk)=true) (hr:zdM k X.A)
  (hb: ∀ pn xe E',zdA (CXE X.prog X.w) (X.re pn xe) (zpE X.K E')->SSs (X.re pn xe) E' body gb)
  (hj:X.N[j]? = some en:=by rfl) (hen:X.env.scope.names.lookup en=some .local:=by rfl) (hg:Gl X ce:=by rfl) (hgk:Gl X gk:=by rfl)
  (hd:(ce==("__debug__":Str))=false:=by decide) (hd2:(gk==("__debug__":Str))=false:=by decide) (hd3:(en==("__debug__":Str))=false:=by decide):
  SS X E (.Try body [.ExceptHandler (some (.Name ce pce)) (some en) [.Return (some (.Call (.Name gk p1) [.Name en p2] [] p3)) p4] hp] [] [] pos) (zhu known gb Fk):=zrp z hN hj hen hg hm hkn.known hb FH hbk hgk hmk kp hr hd hd2 hd3
end
noncomputable def zsa (Fs:List (List D->M D)) (i:D):M (List D->M D):=match i with
 | .int j=>(match ixN Fs.length j with
   | some m=>ofO Fs[m]?
   | none=>M.bad)
 | _=>M.bad
noncomputable def ztv (n:Nat) (Fs:List (List D->M D)) (fi:FE) (fs:FA):FE:=fun sd=>do
 let i<-fi sd
 let F<-zsa Fs i
 let ds<-fs sd
 zay n F ds
structure Fns (X:Cx) (n:Nat) (addrs:List Addr) (Fs:List (List D->M D)):Prop where
 len:Fs.length=addrs.length
 ok: ∀ (m:Nat) (F:List D->M D) (a:Addr),Fs[m]? = some F->addrs[m]? = some a-> ∃ k fd ps,zb6 X.prog X.w X.K X.mg X.base (CXE X.prog X.w) k a fd ps (spE X.K n F)/\zdN k X.A/\W.keepIn X.K (.ref a)=true/\zaS X.K fd ps []
section
variable {X:Cx} {E:XE} {e ix:Expr} {es fes:List Expr} {pos p q3 q4:Pos} {fi:FE} {fs:FA} {x:Str}
end
end L3
namespace L2
open PySem PySem.Spec PyProof.Rows
section
variable {X:Cx} {tg:Expr}
end
end L2
namespace L3
open PySem PySem.Spec PyProof.Rows L2
section
variable {X:Cx} {E:XE} {e o:Expr} {f fo fe:FE} {pos apos cpos:Pos}
noncomputable def zbG (tc:FT) (gb:FS):Nat->FS
 | 0,_=>M.bad
 | n+1,sd=>do
  let b<-tc sd
  if b=true then
   let o<-gb sd
   match o with
   | .nx sd'=>zbG tc gb n sd'
   | .ct sd'=>zbG tc gb n sd'
   | .bk sd'=>pure (.nx sd')
   | .rt d=>pure (.rt d)
  else pure (.nx sd)
noncomputable def zfk (n:Nat) (tc:FT) (gb:FS):FS:=zbG tc gb n
theorem zhz {c:Expr} {body:List Stmt} {tc:FT} {gb:FS} (n:Nat) (hp:PassesOwn (model X.prog X.w) X.A X.env X.xe) (hc:ST X E c tc) (hb:SSs X E body gb):SS X E (.While c body [] pos) (zfk n tc gb):=by
 refine PS.imp (zmn hp hc hb) fun D0 σ H ⟨ι,h,sd,L,hh,q⟩=> ?_
 refine ⟨fun m σ' H'=> ∃ ι' h' sd',zcB X.K ι' H' sd' σ'/\zbb X.K ι' H' h'/\Fin X.K E ι' H' (zbG tc gb m sd' h') (zfW X.K D0),⟨n,ι,h,sd,L,hh,q⟩,?_⟩
 rintro m σ2 H2 ⟨ι2,h2,sd2,L2,hr2,q2⟩
 cases m with
 | zero=>exact qa0 q2
 | succ m=>
  refine ⟨ι2,h2,sd2,L2,hr2,Fin.bind q2 fun b h3 ι3 H3 e3 s3 hr3 q3=> ?_⟩
  cases b with
  | true=>
   refine ⟨fun σ' H'=> ∃ ι' h' sd',zcB X.K ι' H' sd' σ'/\zbb X.K ι' H' h'/\Fin X.K E ι' H' (zbG tc gb m sd' h') (zfW X.K D0),fun σ' H' p=>⟨m,by omega,p⟩,ι3,h3,sd2,L2.step s3,hr3,Fin.bind q3 fun o h7 ι7 H7 e7 s7 hr7 q7=> ?_⟩
   cases o with
   | nx sd'=>exact fun σ' L'=>⟨ι7,h7,sd',L',hr7,q7⟩
   | ct sd'=>exact fun σ' L'=>⟨ι7,h7,sd',L',hr7,q7⟩
   | bk sd'=>exact fun σ' L'=>Fin.out (E:=E) (P:=zfW X.K D0) hr7 q7 σ' L'
   | rt d=>exact fun v rv=>Fin.out (E:=E) (P:=zfW X.K D0) hr7 q7 v rv
  | false=>exact Fin.out (E:=E) (P:=zfW X.K D0) hr3 q3 σ2 (L2.step s3)
end
end L3
namespace L3
open PySem
open Sem (wp)
open AutoSeq1 (wpAny_loadPart')
section
variable {prog:Program} {w:World} {A:Around} {E:Value->Shared->Prop} {s:Shared}
theorem zbi {it l:Addr} {i:Nat} {items:Array Value} {x:Value} {Q:Value->Shared->Prop} (hit:s.heap.IsTupleIter it l i) (hl:s.heap.IsTuple l items) (hx:items[i]? = some x)
  (hQ: ∀ h',h'.IsTupleIter it l (i+1)->Heap.SameBut it s.heap h'->Q x {s with heap:=h'}):wpAny (model prog w) A (Builtin.SmallTypes.nextOf (.ref it)) Q E s:=by
 obtain ⟨o,ho,hc,hd⟩:=id hit
 obtain ⟨ol,hol,_,nl,hdl⟩:=hl
 unfold Builtin.SmallTypes.nextOf
 refine qaW (wpAny_callSpecial?_slot (name:=Str.ofString "__next__") hit.typeIs F.slot_tuple_iterator_next
   (wpAny_call_entry F.slot_tuple_iterator_next hit.typeIs F.entry_tuple_iterator_next ?_ (F.args_tuple_iterator_next_1 _)))
 show wpAny _ _ (field (.ref it) 0>>=_) _ _ s
 refine qaW (wpAny_field ho hd (x:= .ref l) rfl ?_)
 show wpAny _ _ (if (Value.ref l==Value.none)=true then _ else _) _ _ s
 rw [qa5 (show ¬((Value.ref l==Value.none)=true) from Bool.false_ne_true)]
 show wpAny _ _ (field (.ref it) 1>>=_) _ _ s
 refine qaW (wpAny_field ho hd (x:= .int i 0) rfl ?_)
 show wpAny _ _ (seqItems? (.ref l)>>=_) _ _ s
 refine qaW (wpAny_seqItems hol hdl ?_)
 simp only [qaB,hx]
 refine qaW (wpAny_setField ho hd (by simp) (qaX ⟨x,rfl,qaX (hQ _ ?_ (Heap.SameBut.update ..))⟩))
 exact ⟨_,qal _ ho (Obj.isFreed_of_fields (Obj.data_mapFields hd _)),(Obj.cls_mapFields ..).trans hc,by
   rw [Obj.data_mapFields hd];simp [rawInt]⟩
theorem zbR {it l:Addr} {i:Nat} {items:Array Value} {Q:Value->Shared->Prop} (hh:zf9 A s.heap) (hit:s.heap.IsTupleIter it l i) (hl:s.heap.IsTuple l items) (hx:items[i]? = none)
  (hE: ∀ h' e,Heap.ExtBut it s.heap h'->(∃ o,h'.get? e=some o/\o.cls= .type "StopIteration")->E (.ref e) {s with heap:=h'}):wpAny (model prog w) A (Builtin.SmallTypes.nextOf (.ref it)) Q E s:=by
 obtain ⟨o,h1,h2,h3⟩:=id hit
 obtain ⟨ol,l1,_,nl,l2⟩:=hl
 unfold Builtin.SmallTypes.nextOf
 refine qaW (wpAny_callSpecial?_slot (name:=Str.ofString "__next__") hit.typeIs F.slot_tuple_iterator_next
   (wpAny_call_entry F.slot_tuple_iterator_next hit.typeIs F.entry_tuple_iterator_next ?_ (F.args_tuple_iterator_next_1 _)))
 show wpAny _ _ (field (.ref it) 0>>=_) _ _ s
 refine qaW (wpAny_field h1 h3 (x:= .ref l) rfl ?_)
 show wpAny _ _ (if (Value.ref l==Value.none)=true then _ else _) _ _ s
 rw [qa5 (show ¬(Value.ref l==Value.none)=true from nofun)]
 show wpAny _ _ (field (.ref it) 1>>=_) _ _ s
 refine qaW (wpAny_field h1 h3 (x:= .int i 0) rfl ?_)
 show wpAny _ _ (seqItems? (.ref l)>>=_) _ _ s
 refine qaW (wpAny_seqItems l1 l2 ?_)
 simp only [qaB,hx]
 refine qaW (wpAny_rule (qaW (wpAny_setField h1 h3 (by simp) ?_)))
 show wpAny _ _ (newExc (.type "StopIteration") []>>=_) _ _ _
 refine qaW ?_
 simp only [newExc,newTuple]
 refine qaW (qaC ?_ (by size_fits))
 refine qaW (m:=firstArgMember _ _) (wpAny_of_eq (a:=Value.none) (by first | rfl | (simp only [firstArgMember];rfl)) ?_)
 refine qaC ?_ (by size_fits)
 rcases hh with hh | ⟨ha,cls,head,hh,hX⟩
 ·simp only [raiseNew]
  refine qaW (wpAny_handled ?_)
  first | rw [show A.in1.handled=none from hh] | rw [hh]
  refine qaW (qaX (wpAny_throw ?_))
  exact hE _ _ (((Heap.SameBut.update ..).extBut.push _).push _) ⟨_,qar _ rfl,rfl⟩
 have nit:ha≠it:=fun z=>by
  subst z
  obtain ⟨ob,vs,x1,_,_,x4,x5,x6⟩:=hX
  rw [h1] at x1
  cases x1
  rw [h3] at x4
  cases x4
  simp at x5
 have hX1:zgE (s.heap.update it (Obj.mapFields (·.setIfInBounds 0 Value.none))) ha cls head:=by
  obtain ⟨ob,vs,x1,x2⟩:=hX
  exact ⟨ob,vs,(qah _ _ (Ne.symm nit)).trans x1,x2⟩
 obtain ⟨ob,vs,x1,x2⟩:=hX1
 have y1:=qag {cls:= .type "tuple",dict:=none,data:= .seq [].toArray} x1
 refine zcw (h:=ha) (cls:=cls) (head:=head) hh ⟨ob,vs,qag _ y1,x2⟩ (qar _ rfl) rfl (by simp;omega) (qaR (qaQ y1)) ?_
 refine hE _ _ (fun b o hb z=> ?_) ⟨_,qal _ (qar _ rfl) rfl,rfl⟩
 have z1:(s.heap.update it (Obj.mapFields (·.setIfInBounds 0 Value.none))).get? b=some o:=(qah _ _ (Ne.symm hb)).trans z
 have z2:=qag {cls:= .type "tuple",dict:=none,data:= .seq [].toArray} z1
 rw [qah _ _ (Nat.ne_of_gt (qaQ z2))]
 exact qag _ z2
end
noncomputable def zaz (A:Around):List Addr:=match A.handled with
 | some (.ref a)=>[a]
 | _=>[]
theorem zf9.keep {A:Around} {h h':Heap} (x:zf9 A h) (k: ∀ b∈zaz A, ∀ o,h.get? b=some o->h'.get? b=some o):zf9 A h':=by
 rcases x with x | ⟨a,cls,head,x1,ob,vs,x2,x3⟩
 ·exact .inl x
 ·exact .inr ⟨a,cls,head,x1,ob,vs,k a (by unfold zaz;rw [x1];simp) _ x2,x3⟩
theorem zer {prog:Program} {w:World} {A:Around} (it l:Addr) (hne:l≠it) (items:Array Value):
  Draws prog w A.in1 it (it::l::zaz A) items.size (fun i v=>items[i]? = some v) (fun i h=>h.IsTupleIter it l i/\h.IsTuple l items/\zf9 A h/\it∉zaz A) where
 live:=fun _ _ st=>let ⟨o,ho,_⟩:=st.1;⟨o,ho⟩
 frame:=fun _ _ _ st hk=>⟨st.1.at fun o e=>hk it (by simp) o e,st.2.1.at fun o e=>hk l (by simp) o e,st.2.2.1.keep fun b hb o e=>hk b (by simp [hb]) o e,st.2.2.2⟩
 item:=fun i s Q E hi st hQ=>by
  refine zbi st.1 st.2.1 (x:=items[i]) (by simp [hi]) fun h' hit' hs'=> ?_
  exact hQ _ h' s.toks (by simp [hi]) ⟨hit',st.2.1.extBut hs'.extBut hne,st.2.2.1.keep fun b hb o e=>(hs'.2 b fun z=>st.2.2.2 (z▸hb)).trans e,st.2.2.2⟩ hs'
 done:=fun s Q E st hE=>zbR (A:=A.in1) st.2.2.1 st.1 st.2.1 (by simp) hE
theorem zc6 (l:Addr) (items:Array Value) (n:Nat) (dct:Option Addr) (sl:Array (Option Value)):
  Meets (Builtin.«enumerate.__new__» ⟨[.type "enumerate",.ref l],[]⟩) (fun _ R s=>s.heap.get? l=some {cls:= .type "tuple",dict:=dct,data:= .seq items n,slots:=sl}/\
    R (.ok (.ret (.ref (s.heap.push {cls:= .type "tuple_iterator",data:= .fields #[.ref l,.int 0 0]}).objs.size)))
      {s with heap:=(s.heap.push {cls:= .type "tuple_iterator",data:= .fields #[.ref l,.int 0 0]}).push {cls:= .type "enumerate",data:= .fields #[.none,.bool false,.ref s.heap.objs.size,rawInt 0,.none,.none]}}):=
 .of_wp fun prog w A R s h=>by
  obtain ⟨hp,g,d,tk,os⟩:=s;obtain ⟨hl,h⟩:=h
  have hsub:=sub_enumerate
  have hL:Heap.IsTuple (Shared.heap ⟨hp,g,d,tk,os⟩) l items:=⟨_,hl,rfl,n,rfl⟩
  wp_walk using wpAny_loadPart' hl
  refine wpAny_stack_any fun st=>qaX ?_
  split
  ·rename_i c _ _ _ _ _
   cases (c==Value.type "enumerate")
   ·wp_walk using wpAny_loadPart' hl,wpAny_pyIter_tuple hL
    exact ⟨_,rfl,h⟩
   ·wp_walk using wpAny_loadPart' hl,wpAny_pyIter_tuple hL
    exact ⟨_,rfl,h⟩
  ·wp_walk using wpAny_loadPart' hl,wpAny_pyIter_tuple hL
   exact ⟨_,rfl,h⟩
end L3
namespace L3
open PySem
section
variable {prog:Program} {w:World} {A:Around} {E:Value->Shared->Prop} {s:Shared}
theorem zc5 {l:Addr} {items:Array Value} {Q:Value->Shared->Prop} (hL:s.heap.IsTuple l items)
  (h: ∀ h',IsEnum h' (s.heap.objs.size+1) s.heap.objs.size 0 .none->h'.IsTupleIter s.heap.objs.size l 0->h'.objs.size=s.heap.objs.size+2->
    (∀ b o,s.heap.get? b=some o->h'.get? b=some o)->Q (.ref (s.heap.objs.size+1)) {s with heap:=h'}):
  wpAny (model prog w) A (call (.type "enumerate") [.ref l]) Q E s:=by
 obtain ⟨⟨c,dct,dt,sl⟩,hl,hc,n,hd⟩:=hL
 replace hc:c= .type "tuple":=hc
 replace hd:dt= .seq items n:=hd
 subst hc hd
 refine callType_new F.called_enumerate (by decide) (F.typeCall_enumerate_1 _) (F.newCall_enumerate_1 _) (fun obj=>F.args_object_init_2 obj _) F.entry_enumerate_new
  (zc6 l items n dct sl) ⟨hl,?_⟩
 have hz:(s.heap.push {cls:= .type "tuple_iterator",data:= .fields #[.ref l,.int 0 0]}).objs.size=s.heap.objs.size+1:=qaL ..
 show _/\_
 rw [hz]
 have he:IsEnum ((s.heap.push {cls:= .type "tuple_iterator",data:= .fields #[.ref l,.int 0 0]}).push
     {cls:= .type "enumerate",data:= .fields #[.none,.bool false,.ref s.heap.objs.size,rawInt 0,.none,.none]}) (s.heap.objs.size+1) s.heap.objs.size 0 .none:=by
  have:=qar (s.heap.push {cls:= .type "tuple_iterator",data:= .fields #[.ref l,.int 0 0]})
   (o:={cls:= .type "enumerate",data:= .fields #[.none,.bool false,.ref s.heap.objs.size,rawInt 0,.none,.none]}) rfl
  rw [hz] at this;exact this
 exact ⟨⟨_,he,rfl⟩,h _ he ⟨_,qag _ (qar _ rfl),rfl,rfl⟩ (by rw [qaL,hz]) fun b o x=>qag _ (qag _ x)⟩
end
end L3
namespace L2
open PySem PySem.Spec PyProof.Rows
section
variable {X:Cx} {pins:List (Addr×Obj)} {σ:St} {H:Hp} {s:Shared} {h':Heap}
theorem Inv.turned2 {t':Nat} {e it:Addr} (I:Inv X pins σ H s) (k: ∀ b o,b≠e->b≠it->s.heap.get? b=some o->h'.get? b=some o) (f:zfN X pins H e) (g:zfN X pins H it):Inv X pins σ H {s with heap:=h',toks:=t'}:=by
 obtain ⟨f0,f1,f2,f3,f4,f5⟩:=f
 obtain ⟨g0,g1,g2,g3,g4,g5⟩:=g
 have ne: ∀ b u,H b=some u->b≠e:=fun b u q z=>by rw [z,f0] at q;cases q
 have nit: ∀ b u,H b=some u->b≠it:=fun b u q z=>by rw [z,g0] at q;cases q
 have kk: ∀ b o,b∉[e,it]->s.heap.get? b=some o->h'.get? b=some o:=fun b o hb q=>k b o (fun z=>hb (by simp [z])) (fun z=>hb (by simp [z])) q
 refine I.step (g':=s.gens) (d':=s.drawn) (ch:=[e,it]) (fun b hb=> ?_) (fun b o _ _ hc q _=>kk b o hc q) (fun b o _ _ hc q _=>⟨o.slots,kk b o hc q⟩) (fun _ _ _ _ n=>n)
  (fun b o hc q=>⟨o,kk b o hc q⟩) (fun _ _ q=>q) (fun _ _ _ q=>q) (fun b ps q=>⟨#[],by rw [q];simp⟩) (fun m hm=> ?_) (fun b u q=> ?_) I.bare
 ·have z:b=e\/b=it:=by simpa using hb
  rcases z with rfl | rfl
  ·exact ⟨f3,f1,f4,f5⟩
  ·exact ⟨g3,g1,g4,g5⟩
 ·obtain ⟨o,es,ep,ho,r⟩:=hm
  exact ⟨o,es,ep,k _ o (Ne.symm f1) (Ne.symm g1) ho,r⟩
 ·refine (I.hok b u q).stay (fun c v hc q'=> ?_) (fun _ q=>q) fun _ _ q=>q
  rcases hc with z | z
  ·rw [z];exact k b v (ne b u q) (nit b u q) (by rw [<- z];exact q')
  ·exact k c v (ne c _ z) (nit c _ z) q'
end
noncomputable def Ite (K:W.Frag) (a:Addr):It:=
 ⟨fun i H=> ∃ xs x,SqT K H a xs/\xs[i]? = some x,fun i H x H'=> ∃ T y,H T=none/\H'=upd H T (.tup [.int i,y])/\x= .ref T/\ ∀ xs,SqT K H a xs->xs[i]? = some y,fun i H=> ∃ xs,SqT K H a xs/\xs.length=i⟩
theorem zjS {P:Program} {w:World} {K:W.Frag} {elts:List Expr} {k:Nat} {pos:Pos} (a e it:Addr) (hei:e≠it):zlC P w K (.Tuple elts k pos) (Ite K a) [e,it] e (fun i h=>(∃ old,IsEnum h e it i old)/\h.IsTupleIter it a i) where
 mem:=by simp
 obj:=fun i h st b hb=>by
  obtain ⟨⟨old,he⟩,o,ho,hc,hd⟩:=st
  have z:b=e\/b=it:=by simpa using hb
  rcases z with rfl | rfl
  ·exact ⟨_,he,fun v z=>by cases z⟩
  ·exact ⟨o,ho,fun v z=>by rw [hd] at z;cases z⟩
 keep:=fun i h h' st k=>⟨let ⟨old,he⟩:=st.1;⟨old,k e (by simp) _ he⟩,st.2.at fun o q=>k it (by simp) o q⟩
 item:=by
  intro X hP hw hK i pins s σ H E I hf st hg
  subst hP hw hK
  obtain ⟨xs,y,hq,hx⟩:=hg
  obtain ⟨its,rv,p,hz⟩:=I.tuple hq
  obtain ⟨u,hu,ru⟩:=rv.get hx
  obtain ⟨⟨old,he⟩,hit⟩:=st
  have hfe:=hf e (by simp)
  have hfi:=hf it (by simp)
  obtain ⟨ot,ht,hct,nt,hdt⟩:=(show s.heap.IsTuple a its.toArray from p)
  obtain ⟨oi,hi,hci,hdi⟩:=id hit
  have hai:a≠it:=fun z=>by
   subst z
   rw [ht] at hi
   cases hi
   rw [hdt] at hdi
   cases hdi
  have hea:e≠a:=fun z=>by
   subst z
   have he':s.heap.get? e=_:=he
   rw [ht] at he'
   cases he'
   cases hdt
  have hin:it∉L3.zaz X.A:=fun z=>by
   rcases I.hand with q | ⟨ha,cls,head,q,ob,vs,x1,_,_,x4,x5,_⟩
   ·unfold L3.zaz at z;rw [q] at z;simp at z
   ·unfold L3.zaz at z
    rw [q] at z
    have:it=ha:=by simpa using z
    subst this
    rw [hi] at x1
    cases x1
    rw [hdi] at x4
    cases x4
    simp at x5
  have hen:e∉L3.zaz X.A:=fun z=>by
   rcases I.hand with q | ⟨ha,cls,head,q,ob,vs,x1,_,_,x4,x5,_⟩
   ·unfold L3.zaz at z;rw [q] at z;simp at z
   ·unfold L3.zaz at z
    rw [q] at z
    have:e=ha:=by simpa using z
    subst this
    have he':s.heap.get? e=_:=he
    rw [x1] at he'
    cases he'
    cases x4
    simp at x5
  have hlt:i<its.toArray.size:=by
   have:=(qac.mp hu).1
   simpa using this
  refine wpAny_pyNext_enum_itemD (L3.zer (A:=X.A) it a hai its.toArray) he ⟨hit,p,I.hand,hin⟩ hlt hei (by simp [hei,hea,hen]) fun x h1 tk hP ho hs' hT hsz hk=> ?_
  have hxu:x=u:=by
   have:its[i]? = some x:=by simpa using hP
   rw [hu] at this
   exact (Option.some.inj this).symm
  subst hxu
  refine ⟨_,rfl,wpAny_letOwnedTupleGo_enum ho fun h2 he2 hs2=> ?_⟩
  have het:e≠s.heap.objs.size:=qaR (qaQ he)
  have hit':it≠s.heap.objs.size:=qaR (qaQ hi)
  have fresh:=I.hok.fresh (qaV s.heap.objs.size)
  have I1:Inv X pins σ (upd H s.heap.objs.size (.tup [.int i,y])) {s with heap:=s.heap.push {cls:= .type "tuple",data:= .seq #[.int i tk,x]},toks:=tk+1}:=
   I.laid (t':=tk+1) (fun b o q=>qag _ q) (qaV _) (show zbz X.prog X.w _ _ _ (.tup [.int i,y]) from ⟨by show 2<=sizeLine;decide,[.int i tk,x],.cons ⟨tk,rfl⟩ (.cons ru .nil),zi2.new _ _⟩)
  have fe:zfN X pins (upd H s.heap.objs.size (.tup [.int i,y])) e:=⟨by rw [zax het];exact hfe.1,hfe.2⟩
  have fi:zfN X pins (upd H s.heap.objs.size (.tup [.int i,y])) it:=⟨by rw [zax hit'];exact hfi.1,hfi.2⟩
  have I2:Inv X pins σ (upd H s.heap.objs.size (.tup [.int i,y])) {s with heap:=h1,toks:=tk+1}:=I1.turned2 (t':=tk+1) (h':=h1) (fun b o hb1 hb2 q=>by
    rcases Heap.get?_push_cases q with ⟨z1,z2⟩ | z
    · rw [z1,z2];exact hT
    · exact hk b o hb1 hb2 z) fe fi
  obtain ⟨f0,f1,f2,f3,f4,f5⟩:=fe
  have I3:Inv X pins σ (upd H s.heap.objs.size (.tup [.int i,y])) {s with heap:=h2,toks:=tk+1}:=I2.turned (t':=tk+1) (fun b o hb q=>(hs2.2 b hb).trans q) f0 f1 f3 f4 f5
  refine ⟨.ref s.heap.objs.size,_,I3,rfl,⟨s.heap.objs.size,y,fresh,rfl,rfl,fun ys hy=>by rw [I.tuple_inj hy hq];exact hx⟩,⟨⟨x,by simpa using he2⟩,hs'.1.at fun o q=>(hs2.2 it (Ne.symm hei)).trans q⟩,fun b hb=> ?_⟩
  have z:b=e\/b=it:=by simpa using hb
  rcases z with rfl | rfl
  ·exact f0
  ·exact fi.1
 done:=by
  intro X hP hw hK i pins s σ H E I hf st hg
  subst hP hw hK
  obtain ⟨xs,hq,hx⟩:=hg
  obtain ⟨its,rv,p,hz⟩:=I.tuple hq
  obtain ⟨⟨old,he⟩,hit⟩:=st
  have hfi:=hf it (by simp)
  obtain ⟨ot,ht,hct,nt,hdt⟩:=(show s.heap.IsTuple a its.toArray from p)
  obtain ⟨oi,hi,hci,hdi⟩:=id hit
  have hai:a≠it:=fun z=>by
   subst z
   rw [ht] at hi
   cases hi
   rw [hdt] at hdi
   cases hdi
  have hin:it∉L3.zaz X.A:=fun z=>by
   rcases I.hand with q | ⟨ha,cls,head,q,ob,vs,x1,_,_,x4,x5,_⟩
   ·unfold L3.zaz at z;rw [q] at z;simp at z
   ·unfold L3.zaz at z
    rw [q] at z
    have:it=ha:=by simpa using z
    subst this
    rw [hi] at x1
    cases x1
    rw [hdi] at x4
    cases x4
    simp at x5
  have hn:its.toArray.size=i:=by
   have:=rv.length
   simp
   omega
  subst hn
  obtain ⟨f0,f1,f2,f3,f4,f5⟩:=hfi
  exact wpAny_pyNext_enum_endD (L3.zer (A:=X.A) it a hai its.toArray) he ⟨hit,p,I.hand,hin⟩ fun h' hx'=>⟨rfl,I.turned (t':=s.toks) (fun b o hb q=>hx' b o hb q) f0 f1 f3 f4 f5⟩
 self:=fun _ _ _ _ _ st h=>let ⟨⟨_,he⟩,_⟩:=st;wpAny_pyIter_enum he h
section
variable {X:Cx} {elts:List Expr} {k:Nat} {tpos:Pos}
noncomputable def ztj (K:W.Frag) (ta:TA):TI:=fun σ H R=>ta σ H fun vs H1=> ∃ a,vs=[.ref a]/\(∃ xs,SqT K H1 a xs)/\R (Ite K a) H1
theorem zoT {l:Expr} {ta:TA} {p pos:Pos} (hg:Gl X "enumerate") (hm:X.mg "enumerate"=none) (ha:PA X [l] ta) (hs:starEach [l] X.env=[(false,eval l X.env)]:=by rfl):
  PI X (.Tuple elts k tpos) (.Call (.Name "enumerate" p) [l] [] pos) (ztj X.K ta):=by
 intro pins s σ H R I h
 refine Call_ (zd4 I hg hm PyProof.Rows.boot_enumerate (PyProof.Rows.callWith_type1 (thn (ha pos pins s σ H _ I h) fun us s1 ⟨vs,H1,I1,r1,q1⟩=> ?_) hs rfl))
 obtain ⟨a,e,⟨xs,hq⟩,q⟩:=q1
 subst e
 cases r1 with
 | cons r rr=>
  cases rr
  cases r
  obtain ⟨its,rv,p,hz⟩:=I1.tuple hq
  refine L3.zc5 (show s1.heap.IsTuple a its.toArray from p) fun h' he hit hsz kp=> ?_
  refine wpAny_pyIter_enum he ?_
  refine ⟨s1.heap.objs.size+1,[s1.heap.objs.size+1,s1.heap.objs.size],_,_,H1,rfl,I1.kept (t':=s1.toks) kp,zjS a _ _ (Nat.succ_ne_self _),⟨⟨_,he⟩,hit⟩,fun b hb=> ?_,q⟩
  have z:b=s1.heap.objs.size+1\/b=s1.heap.objs.size:=by simpa using hb
  rcases z with rfl | rfl
  ·exact I1.fpOk (Nat.le_succ _) (I1.hok.fresh (Nat.le_succ _))
  ·exact I1.fpOk (qaV _) (I1.hok.fresh (qaV _))
end
end L2
namespace L3
open PySem PySem.Spec PyProof.Rows L2
section
variable {X:Cx} {E:XE} {elts:List Expr} {k:Nat} {tpos pos:Pos}
noncomputable def zf3 (ds:List D):List D:=(List.range ds.length).map fun (i:Nat)=> .tup [.int i,ds.getD i .non]
theorem zmD {K:W.Frag} {ι:Io} {H:Hp} {a:Addr} {vs:List V} {ds:List D} (h: ∀ ι' H',Pass ι H ι' H'->SqT K H' a vs) (rl:zas K ι H ds vs):zlh K ι H (Ite K a) (zf3 ds) where
 go:=fun ι' H' i s hi=>by
  have hi:i<ds.length:=by simpa [zf3] using hi
  obtain ⟨v,ev,_⟩:=zas.get rl (i:=i) (d:=ds[i]) (by simp [hi])
  exact ⟨vs,v,h ι' H' s,ev⟩
 yld:=fun ι' H' _ i x H2 s hr hi ⟨T,y,hT,e,e2,hy⟩=>by
  subst e e2
  have hi:i<ds.length:=by simpa [zf3] using hi
  obtain ⟨v,ev,rv⟩:=zas.get rl (i:=i) (d:=ds[i]) (by simp [hi])
  have ey:=hy vs (h ι' H' s)
  rw [ev] at ey
  cases ey
  refine ⟨.inr ⟨T,_,hT,rfl⟩,.tup [.int i,ds[i]],by simp [zf3,hi],?_⟩
  obtain ⟨st,hr2⟩:=zpm.step (.inr ⟨T,[.int i,y],hT,rfl⟩) hr
  have rv2:Rel K ι' (upd H' T (.tup [.int i,y])) ds[i] y:=(rv.pass s).step st
  simp only [Rel]
  exact ⟨T,_,rfl,⟨zaH,hr.nin hT⟩,zas.cons (by simp [Rel]) (zas.cons rv2 zas.nil)⟩
 stop:=fun ι' H' s=>⟨vs,h ι' H' s,by rw [<- rl.length];simp [zf3]⟩
noncomputable def zsD (f:FE):FA:=fun sd=>do
 let d<-f sd
 match d with
 | .tup ds=>pure (zf3 ds)
 | _=>M.bad
theorem zse {l:Expr} {f:FE} {p:Pos} (hm:X.mg "enumerate"=none) (he:SE X E l f) (hg:Gl X "enumerate":=by rfl) (hs:starEach [l] X.env=[(false,eval l X.env)]:=by rfl):SI X E (.Tuple elts k tpos) (.Call (.Name "enumerate" p) [l] [] pos) (zsD f):=by
 refine PI.imp (zoT hg hm (zbs he zcU hs) hs) fun σ H Q ⟨ι,h,sd,L,hh,q⟩=>⟨ι,h,sd,L,hh,Fin.bind q fun d h1 ι1 H1 e1 s1 hr1 q1 v rv=> ?_⟩
 cases d with
 | tup ds=>
  obtain ⟨a,vs,e,h1',h2⟩:=zfF rv
  exact ⟨a,by rw [e],⟨vs,h1' _ _ (Pass.refl _ _)⟩,Fin.out hr1 q1 _ (zmD h1' h2)⟩
 | _=>exact qa0 q1
end
end L3
namespace L3
open PySem PyProof.Rows
section
open PySem.SeqAt
open PySem.AutoSeq1 (wpAny_loadPart')
open PySem.MeetsSeq PySem.MeetsSeq2 PySem.MeetsSeq3
section
variable {prog:Program} {w:World} {A:Around} {E:Value->Shared->Prop} {s:Shared}
end
end
end L3
namespace L3
open PySem
section
variable {prog:Program} {w:World} {A:Around} {R:Result->Shared->Prop} {I:Addr} {fp wr:List Addr} {n:Nat} {P:Nat->Value->Prop} {St:Nat->Heap->Prop} {h0:Heap}
end
section
variable {prog:Program} {w:World} {A:Around} {E:Value->Shared->Prop} {s:Shared}
end
end L3
namespace L2
open PySem PySem.Spec PyProof.Rows L3
section
variable {X:Cx}
end
end L2
namespace L3
open PySem PySem.Spec PyProof.Rows L2
section
variable {X:Cx} {E:XE}
end
section
variable {X:Cx} {E:XE}
noncomputable def zur (d:D):M Bool:=do let ds<-znj d;pure (!ds.isEmpty)
noncomputable def zuo (f:FE):FT:=fun sd=>do let d<-f sd;zur d
end
section
variable {X:Cx} {E:XE}
noncomputable def zqz:D->Option Bool
 | .non=>some true
 | .int _=>some false
 | .tup _=>some false
 | .lst _=>some false
 | _=>none
noncomputable def zsx (x y:D):M D:=match y with
 | .non=>do let b<-ofO (zqz x);pure (.bl b)
 | _=>M.bad
noncomputable def zlw (x y:D):M D:=match y with
 | .non=>do let b<-ofO (zqz x);pure (.bl (!b))
 | _=>M.bad
theorem zia {K:W.Frag} {ι:Io} {H:Hp} {x:D} {v:V} {u:Value} {b:Bool} (r:Rel K ι H x v) (rv:zby v u) (e:zqz x=some b):(u=Value.none/\b=true)\/(u≠Value.none/\b=false):=by
 cases x with
 | non=>
  simp only [Rel] at r
  subst r
  cases rv
  cases e
  exact .inl ⟨rfl,rfl⟩
 | int i=>
  simp only [Rel] at r
  subst r
  obtain ⟨t,rfl⟩:=rv
  cases e
  exact .inr ⟨(fun z=>by cases z),rfl⟩
 | tup ds=>
  obtain ⟨a,vs,rfl,_,_⟩:=zdc r
  cases rv
  cases e
  exact .inr ⟨(fun z=>by cases z),rfl⟩
 | lst ds=>
  obtain ⟨a,vs,rfl,_,_⟩:=zeb r
  cases rv
  cases e
  exact .inr ⟨(fun z=>by cases z),rfl⟩
 | _=>cases e
theorem zm2:OpR X (compareOp .Is) (zc7 X.K E zsx):=by
 intro pins s σ H x y v u Q I rx ry ⟨ι,h,d1,d2,r1,r2,hr,q⟩
 cases d2 with
 | non=>
  obtain ⟨b,eb,q⟩:=Fin.ofOb (show Fin X.K E ι H ((do let b<-ofO (zqz d1);pure (.bl b):M D) h) _ from q)
  simp only [Rel] at r2
  subst r2
  cases ry
  rcases zia r1 rx eb with ⟨rfl,rfl⟩ | ⟨hv,rfl⟩
  ·exact is_none_none (zgK I (Fin.out hr q _ (by simp [Rel])) rfl)
  ·exact is_none_ne hv (zgK I (Fin.out hr q _ (by simp [Rel])) rfl)
 | _=>exact qa0 q
theorem zos:OpR X (compareOp .IsNot) (zc7 X.K E zlw):=by
 intro pins s σ H x y v u Q I rx ry ⟨ι,h,d1,d2,r1,r2,hr,q⟩
 cases d2 with
 | non=>
  obtain ⟨b,eb,q⟩:=Fin.ofOb (show Fin X.K E ι H ((do let b<-ofO (zqz d1);pure (.bl (!b)):M D) h) _ from q)
  simp only [Rel] at r2
  subst r2
  cases ry
  rcases zia r1 rx eb with ⟨rfl,rfl⟩ | ⟨hv,rfl⟩
  ·exact isnot_none_none (zgK I (Fin.out hr q _ (by simp [Rel])) rfl)
  ·exact isnot_none_ne hv (zgK I (Fin.out hr q _ (by simp [Rel])) rfl)
 | _=>exact qa0 q
end
section
variable {X:Cx} {E:XE} {scope:Scope} {N:List Str} {src:List (Option Nat)} {tg iter elt:Expr} {ifs:List Expr} {pos:Pos}
theorem zuE {K:W.Frag} {g:D->Sd->M Sd} {tc:Sd->M Bool} {te:Sd->M D} {J:It} {ds:List D} {ι:Io} {H:Hp} {h:Hh} {sd:Sd} {σ:L2.St} {Q:VK} {p:Addr} (hk:zaC g src) (L:zcB K ι H sd σ) (hr:zbb K ι H h) (ok:zlh K ι H J ds) (hz:ds.length<=sizeLine)
  (q:Fin K E ι H ((do let ys<-zbj (zbc g tc te (zak src sd)) ds;zbn ys) h) fun d ι' H'=> ∀ v,Rel K ι' H' d v->Q v H') (hp:H p=none):
  zsA J (zqq K E g) (ze3 K E tc) (zg3 K E te) (bStart src σ) H p fun H'=>Q (.ref p) H':=by
 generalize hP:(fun (d:D) (ι':Io) (H':Hp)=> ∀ v,Rel K ι' H' d v->Q v H')=P at q
 generalize hf:zbc g tc te (zak src sd)=f at q
 have hpx:p∉ι.x:=fun z=>hr.nin hp (.inr z)
 have h0len:(zak src sd).length=src.length:=by unfold zak;rw [qaH]
 have h0non: ∀ (i:Nat),src[i]? = some none->(zak src sd)[i]? = some none:=fun i e=>by unfold zak;rw [List.getElem?_map,e];rfl
 refine ⟨fun i m σ' H'=>m=ds.length - i/\i<=ds.length/\ ∃ ι' h' done vs,ι'.x=p::ι.x/\zbA ι H ι'.show H'/\zcB K ι' H' (zak src sd) σ'/\zbb K ι' H' h'/\H' p=some (.lst vs)/\zas K ι' H' done vs/\done.length<=i/\
     Fin K E ι H ((do let ys<-zbj f (ds.drop i);zbn (done++ys)) h') P,
   ⟨_,rfl,Nat.zero_le _,ι.hide p,h,[],[],rfl,?_,L.bStart.pass (zeK hp),hr.hide hp,zaH,zas.nil,qaV _,?_⟩,?_⟩
 ·have:=hr.laidS (o:= .lst []) hp
  exact ⟨this.old,this.new,this.hid,this.hidk,this.keep⟩
 ·simpa using q
 rintro i m σ2 H2 ⟨rfl,hi2,ι2,h2,done,vs,hx2,s2,L2,hr2,e2,rl2,dl2,q2⟩
 have ps2:Pass ι H ι2 H2:=⟨s2.old,fun b o hb n=>⟨s2.keep b o hb n,fun z=>by
   rcases z with z | z
   · exact s2.nin hb n (.inl z)
   · rw [hx2] at z
     rcases qaP.mp z with z | z
     · rw [z,hp] at hb;cases hb
     · exact n (.inr z)⟩⟩
 have hp2:p∈ι2.x:=by rw [hx2];exact qau
 have base: ∀ {ι':Io} {H':Hp},zbA ι2 H2 ι' H'->zbA ι H ι'.show H':=fun t=>s2.trans (t.shown hx2)
 by_cases hlt:i<ds.length
 ·right
  refine ⟨ok.go ι2 H2 i ps2 hlt,fun σ' H'=>i+1<=ds.length/\ ∃ ι' h' done vs,ι'.x=p::ι.x/\zbA ι H ι'.show H'/\zcB K ι' H' (zak src sd) σ'/\zbb K ι' H' h'/\H' p=some (.lst vs)/\zas K ι' H' done vs/\done.length<=i+1/\
    Fin K E ι H ((do let ys<-zbj f (ds.drop (i+1));zbn (done++ys)) h') P,fun σ' H' z=>⟨ds.length - (i+1),by omega,rfl,z.1,z.2⟩,fun x H3 y=> ?_⟩
  obtain ⟨gr,d,ed,rd⟩:=ok.yld ι2 H2 h2 i x H3 ps2 hr2 hlt y
  obtain ⟨s3,hr3⟩:=gr.step hr2
  have edr:ds.drop i=d::ds.drop (i+1):=by
   rw [qae hlt]
   rw [qaf hlt] at ed
   rw [Option.some.inj ed]
  rw [edr] at q2
  have q3:=q2
  have st3:zbA ι2 H2 ι2 H3:=s3
  have e3:H3 p=some (.lst vs):=by rw [s3.hidk p hp2];exact e2
  have eq1:(do let ys<-zbj f (d::ds.drop (i+1));zbn (done++ys):M D)=(g d (zak src sd)>>=fun sd1=>tc sd1>>=fun c=>if c=true then (te sd1>>=fun y=>zbj f (ds.drop (i+1))>>=fun ys=>zbn (done++[y]++ys)) else (zbj f (ds.drop (i+1))>>=fun ys=>zbn (done++ys))):=by
   rw [zbj]
   rw [<- hf]
   simp only [zbc,bind_assoc]
   refine congrArg _ (funext fun sd1=> ?_)
   refine congrArg _ (funext fun c=> ?_)
   cases c with
   | true=>simp only [if_true,bind_assoc,pure_bind,List.append_assoc,List.cons_append,List.nil_append]
   | false=>simp only [qax,if_false,pure_bind]
  rw [eq1] at q3
  refine ⟨ι2,h2,zak src sd,d,L2.step s3,hr3,rd,?_⟩
  refine Fin.bindB q3 (fun ι' H' h' s hr'=>⟨ι'.show,base (s3.trans s),hr'.show⟩) fun sd4 h4 ι4 H4 e4 s4 hr4 q4 σ4 L4=> ?_
  have hx4:ι4.x=p::ι.x:=by rw [s4.hid];exact hx2
  obtain ⟨k1,k2⟩:=hk d _ h2 sd4 h4 h0len h0non e4
  refine ⟨ι4,h4,sd4,L4,hr4,Fin.bindB q4 (fun ι' H' h' s hr'=>⟨ι'.show,base ((s3.trans s4).trans s),hr'.show⟩) fun c h5 ι5 H5 e5 s5 hr5 q5=> ?_⟩
  have hx5:ι5.x=p::ι.x:=by rw [s5.hid];exact hx4
  have sub: ∀ {ι':Io} {H':Hp},zcB K ι' H' sd4 σ4->zcB K ι' H' (zak src sd) σ4:=fun {ι' H'} z=>⟨by rw [<- k1];exact z.1,fun j d' e=>z.2 j d' (k2 j d' (fun w=>by rw [h0non j w] at e;cases e) e)⟩
  have st5:zbA ι2 H2 ι5 H5:=(s3.trans s4).trans s5
  cases c with
  | false=>
   exact zm5 ⟨hlt,ι5,h5,done,vs,hx5,base st5,sub (L4.step s5),hr5,by rw [st5.hidk p hp2];exact e2,rl2.step st5,Nat.le_succ_of_le dl2,q5⟩
  | true=>
   refine znw ⟨ι5,h5,sd4,L4.step s5,hr5,Fin.bindB q5 (fun ι' H' h' s hr'=>⟨ι'.show,base (st5.trans s),hr'.show⟩) fun yd h6 ι6 H6 e6 s6 hr6 q6 y ry=> ?_⟩
   have st6:zbA ι2 H2 ι6 H6:=st5.trans s6
   have hx6:ι6.x=p::ι.x:=by rw [s6.hid];exact hx5
   have hp6:p∈ι6.x:=by rw [hx6];exact qau
   have e6':H6 p=some (.lst vs):=by rw [st6.hidk p hp2];exact e2
   refine ⟨vs,e6',by rw [<- rl2.length];omega,hlt,ι6,h6,done++[yd],vs++[y],hx6,zge hp hpx hx2 s2 st6,?_,hr6.hid hp6,zaH,?_,?_,?_⟩
   ·exact ((sub (L4.step s5)).step s6).pass (zdD hp6)
   ·exact ((rl2.step st6).append (zas.cons ry zas.nil)).pass (zdD hp6)
   ·rw [qav,List.length_singleton];omega
   ·exact q6
 ·left
  have e:i=ds.length:=by omega
  subst e
  refine ⟨ok.stop ι2 H2 ps2,?_⟩
  rw [List.drop_length] at q2
  have hin:p∈ι2.x:=hp2
  have hpc:some p∉ι2.c:=(hr2.hidt p hin).2
  have htl:ι2.x.tail=ι.x:=by rw [hx2];rfl
  have q3:Fin K E ι H (zbn done h2) P:=by
   have:Fin K E ι H ((zbn (done++[]):M D) h2) P:=q2
   rw [List.append_nil] at this
   exact this
  have hmem: ∀ a,some a∈ι2.c++[some p]↔some a∈ι2.c\/a=p:=fun a=>by simp
  have ps:Pass ι2 H2 ⟨ι2.c++[some p],ι.x⟩ H2:=by
   refine ⟨fun n o h=> .inl ?_,fun b o hb n=>⟨hb,fun z=> ?_⟩⟩
   ·show (ι2.c++[some p])[n]? = _
    rw [qad (qac.mp h).1]
    exact h
   ·rcases z with z | z
    ·rcases (hmem b).mp z with z | z
     ·exact n (.inl z)
     ·exact n (.inr (z▸hin))
    ·exact n (.inr (by rw [hx2];exact qan _ z))
  have st:zbA ι H ⟨ι2.c++[some p],ι.x⟩ H2:=by
   refine ⟨fun n o h=> ?_,fun a h=> ?_,rfl,s2.hidk,s2.keep⟩
   ·rcases s2.old n o h with z | z
    ·left
     have z:ι2.c[n]? = some o:=z
     show (ι2.c++[some p])[n]? = _
     rw [qad (qac.mp z).1]
     exact z
    ·right
     have z:ι2.c[n]? = some none:=z
     show (ι2.c++[some p])[n]? = _
     rw [qad (qac.mp z).1]
     exact z
   ·rcases (hmem a).mp h with z | z
    ·exact s2.new a z
    ·exact .inr (z▸hp)
  have hr3:zbb K ⟨ι2.c++[some p],ι.x⟩ H2 (h2++[.lst done]):=by
   have hl:=hr2.len
   refine ⟨by simp [hl],fun a b c ha hb=> ?_,fun n a c ha hc=> ?_,fun n hn=> ?_,fun a ha=> ?_⟩
   ·have ha:(ι2.c++[some p])[a]? = some (some c):=ha
    have hb:(ι2.c++[some p])[b]? = some (some c):=hb
    have key: ∀ n,(ι2.c++[some p])[n]? = some (some c)->(n<ι2.c.length/\ι2.c[n]? = some (some c))\/(n=ι2.c.length/\c=p):=fun n hn=>by
     by_cases hlt':n<ι2.c.length
     ·rw [qad hlt'] at hn
      exact .inl ⟨hlt',hn⟩
     ·have:=(qac.mp hn).1
      rw [qav,List.length_singleton] at this
      have e:n=ι2.c.length:=by omega
      subst e
      rw [qaa (qaV _)] at hn
      simp at hn
      exact .inr ⟨rfl,hn.symm⟩
    rcases key a ha with ⟨l1,a1⟩ | ⟨a1,a2⟩<;>rcases key b hb with ⟨l2,b1⟩ | ⟨b1,b2⟩
    ·exact hr2.inj a b c a1 b1
    ·exact absurd (List.mem_of_getElem? a1) (b2▸hpc)
    ·exact absurd (List.mem_of_getElem? b1) (a2▸hpc)
    ·omega
   ·have ha:(ι2.c++[some p])[n]? = some (some a):=ha
    by_cases hlt':n<ι2.c.length
    ·rw [qad hlt'] at ha
     rw [qad (by omega)] at hc
     obtain ⟨o',e2',e3'⟩:=hr2.at_ n a c ha hc
     exact ⟨o',e2',e3'.pass ps⟩
    ·have:=(qac.mp ha).1
     rw [qav,List.length_singleton] at this
     have e:n=ι2.c.length:=by omega
     subst e
     rw [qaa (qaV _)] at ha
     rw [<- hl,qaa (qaV _)] at hc
     simp at ha hc
     subst ha
     subst hc
     exact ⟨_,e2,vs,rfl,rl2.pass ps⟩
   ·have hn:(ι2.c++[some p])[n]? = some none:=hn
    by_cases hlt':n<ι2.c.length
    ·rw [qad hlt'] at hn
     rw [qad (by omega)]
     exact hr2.dead n hn
    ·have:=(qac.mp hn).1
     rw [qav,List.length_singleton] at this
     have e:n=ι2.c.length:=by omega
     subst e
     rw [qaa (qaV _)] at hn
     simp at hn
   ·have h1:=hr2.hidt a (by rw [hx2];exact qan _ ha)
    exact ⟨h1.1,fun z=>by
      rcases (hmem a).mp z with z | z
      · exact h1.2 z
      · exact hpx (z▸ha)⟩
  have q4:P (.cel h2.length) ⟨ι2.c++[some p],ι.x⟩ H2:=q3 _ _ st hr3
  rw [<- hP] at q4
  refine q4 (.ref p) ?_
  simp only [Rel]
  refine ⟨p,rfl,.inl ?_⟩
  show (ι2.c++[some p])[h2.length]? = _
  rw [hr2.len,qaa (qaV _)]
  simp
noncomputable def zfj (fi:Sd->M (List D)) (g:D->Sd->M Sd) (tc:Sd->M Bool) (te:Sd->M D) (src:List (Option Nat)):Sd->M D:=fun sd=>do
 let ds<-fi sd
 fits ds.length
 let ys<-zbj (zbc g tc te (zak src sd)) ds
 zbn ys
theorem zmx {K:W.Frag} {fi:Sd->M (List D)} {g:D->Sd->M Sd} {tc:Sd->M Bool} {te:Sd->M D} (hk:zaC g src) (σ:L2.St) (H:Hp) (Q:VK) (q:zg3 K E (zfj fi g tc te src) σ H Q):
  zlk (ztQ K E fi) (zqq K E g) (ze3 K E tc) (zg3 K E te) src σ H Q:=by
 obtain ⟨ι,h,sd,L,hh,q⟩:=q
 refine ⟨ι,h,sd,L,hh,Fin.bind q fun ds h1 ι1 H1 e1 s1 hr1 q1 J ok p hp=> ?_⟩
 obtain ⟨z,q2⟩:=Fin.fits q1
 exact zuE hk (L.step s1) hr1 ok z q2 hp
noncomputable def zrq (d:D):M D:=match d with
 | .cel n=>fun h=>match h[n]? with
  | some (.lst ds)=> .ok (.lst ds) (h.set n .dead)
  | _=> .bad
 | _=>M.bad
theorem zrS {e:Expr} {f:FE} (he:SE X E e f):SE X E e (cUn zrq f):=by
 refine PE.imp he fun σ H Q ⟨ι,h,sd,L,hh,q⟩=>⟨ι,h,sd,L,hh,Fin.bind q fun d h1 ι1 H1 e1 s1 hr1 q1 v rv=> ?_⟩
 cases d with
 | cel n=>
  simp only [Rel] at rv
  obtain ⟨a,rfl,hn⟩:=rv
  rcases hn with hn | hn
  rotate_left
  ·have hd:=hr1.dead n hn
   have:Fin X.K E ι1 H1 (match h1[n]? with | some (.lst ds)=>R.ok (D.lst ds) (h1.set n .dead) | _=> .bad) _:=q1
   rw [hd] at this
   exact qa0 this
  have hlt:=(qac.mp hn).1
  have hl:=hr1.len
  obtain ⟨c,hc⟩: ∃ c,h1[n]? = some c:=⟨h1[n],by simp [hl,hlt]⟩
  obtain ⟨ds,vs,rfl,e2,rl⟩: ∃ ds vs,c= .lst ds/\H1 a=some (.lst vs)/\zas X.K ι1 H1 ds vs:=by
   obtain ⟨o,e1,e2⟩:=hr1.at_ n a c hn hc
   cases c with
   | lst ds=>obtain ⟨vs,rfl,rl⟩:=e2;exact ⟨ds,vs,rfl,e1,rl⟩
   | dic kvs=>
    have:Fin X.K E ι1 H1 (match h1[n]? with | some (.lst ds)=>R.ok (D.lst ds) (h1.set n .dead) | _=> .bad) _:=q1
    rw [hc] at this
    exact qa0 this
   | dit ks=>
    have:Fin X.K E ι1 H1 (match h1[n]? with | some (.lst ds)=>R.ok (D.lst ds) (h1.set n .dead) | _=> .bad) _:=q1
    rw [hc] at this
    exact qa0 this
   | ins _ _=>
    have:Fin X.K E ι1 H1 (match h1[n]? with | some (.lst ds)=>R.ok (D.lst ds) (h1.set n .dead) | _=> .bad) _:=q1
    rw [hc] at this
    exact qa0 this
   | dead=>exact qa0 e2
  have q2:Fin X.K E ι1 H1 (.ok (.lst ds) (h1.set n .dead)) fun d ι' H'=> ∀ v,Rel X.K ι' H' d v->Q v H':=by
   have:Fin X.K E ι1 H1 (match h1[n]? with | some (.lst ds)=>R.ok (D.lst ds) (h1.set n .dead) | _=> .bad) _:=q1
   rw [hc] at this
   exact this
  have mem: ∀ b,some b∈ι1.c.set n none->some b∈ι1.c:=fun b hb=>by
   rcases List.mem_or_eq_of_mem_set hb with z | z
   ·exact z
   ·cases z
  have st:zbA ι1 H1 ⟨ι1.c.set n none,ι1.x⟩ H1:=by
   refine ⟨fun k o hk=> ?_,fun b hb=> .inl (mem b hb),rfl,fun _ _=>rfl,fun _ _ h _=>h⟩
   by_cases hkn:n=k
   ·subst hkn
    right
    show (ι1.c.set n none)[n]? = _
    rw [qai hlt]
   ·left
    show (ι1.c.set n none)[k]? = _
    rw [qao hkn]
    exact hk
  have hna:some a∉ι1.c.set n none:=fun z=>by
   obtain ⟨k,hk⟩:=List.getElem?_of_mem z
   by_cases hkn:n=k
   ·subst hkn
    rw [qai hlt] at hk
    cases hk
   ·rw [qao hkn] at hk
    exact hkn (hr1.inj n k a hn hk)
  have hrn:zbb X.K ⟨ι1.c.set n none,ι1.x⟩ H1 (h1.set n .dead):=by
   refine ⟨by simp [hl],fun i j b hi hj=> ?_,fun k b c' hk hc'=> ?_,fun k hk=> ?_,fun b hb=>⟨(hr1.hidt b hb).1,fun z=>(hr1.hidt b hb).2 (mem b z)⟩⟩
   ·have hi:(ι1.c.set n none)[i]? = some (some b):=hi
    have hj:(ι1.c.set n none)[j]? = some (some b):=hj
    have key: ∀ k,(ι1.c.set n none)[k]? = some (some b)->ι1.c[k]? = some (some b):=fun k hk=>by
     by_cases hkn:n=k
     ·subst hkn
      rw [qai hlt] at hk
      cases hk
     ·rw [qao hkn] at hk
      exact hk
    exact hr1.inj i j b (key i hi) (key j hj)
   ·have hk:(ι1.c.set n none)[k]? = some (some b):=hk
    by_cases hkn:n=k
    ·subst hkn
     rw [qai hlt] at hk
     cases hk
    ·rw [qao hkn] at hk hc'
     obtain ⟨o',x2,x3⟩:=hr1.at_ k b c' hk hc'
     exact ⟨o',x2,x3.pass st.pass⟩
   ·have hk:(ι1.c.set n none)[k]? = some none:=hk
    by_cases hkn:n=k
    ·subst hkn
     rw [qai (by omega)]
    ·rw [qao hkn] at hk ⊢
     exact hr1.dead k hk
  refine q2 _ _ st hrn (.ref a) ?_
  simp only [Rel]
  refine ⟨a,vs,rfl,⟨e2,fun z=> ?_⟩,rl.step st⟩
  rcases z with z | z
  ·exact hna z
  ·exact (hr1.hidt a z).2 (List.mem_of_getElem? hn)
 | _=>exact qa0 q1
end
end L3
namespace L3
open PySem
open Sem (wp)
open AutoSeq1 (wpAny_loadPart')
section
variable {prog:Program} {w:World} {A:Around} {E:Value->Shared->Prop} {s:Shared}
theorem zbP {it l:Addr} {i:Nat} {items:Array Value} {Q:Value->Shared->Prop} (hh:zf9 A s.heap) (hit:s.heap.IsListIter it l i) (hl:s.heap.IsList l items) (hx:items[i]? = none)
  (hE: ∀ h' e,Heap.ExtBut it s.heap h'->(∃ o,h'.get? e=some o/\o.cls= .type "StopIteration")->E (.ref e) {s with heap:=h'}):wpAny (model prog w) A (Builtin.SmallTypes.nextOf (.ref it)) Q E s:=by
 obtain ⟨o,h1,h2,h3⟩:=id hit
 obtain ⟨ol,l1,_,nl,l2⟩:=hl
 unfold Builtin.SmallTypes.nextOf
 refine qaW (wpAny_callSpecial?_slot (name:=Str.ofString "__next__") hit.typeIs slot_listiter_next
   (wpAny_call_entry slot_listiter_next hit.typeIs entry_listiter_next ?_ (args_listiter_next _)))
 show wpAny _ _ (field (.ref it) 0>>=_) _ _ s
 refine qaW (wpAny_field h1 h3 (x:= .ref l) rfl ?_)
 show wpAny _ _ (if (Value.ref l==Value.none)=true then _ else _) _ _ s
 rw [qa5 (show ¬(Value.ref l==Value.none)=true from nofun)]
 show wpAny _ _ (field (.ref it) 1>>=_) _ _ s
 refine qaW (wpAny_field h1 h3 (x:= .int i 0) rfl ?_)
 show wpAny _ _ (seqItems? (.ref l)>>=_) _ _ s
 refine qaW (wpAny_seqItems l1 l2 ?_)
 simp only [qaB,hx]
 refine qaW (wpAny_rule (qaW (wpAny_setField h1 h3 (by simp) ?_)))
 show wpAny _ _ (newExc (.type "StopIteration") []>>=_) _ _ _
 refine qaW ?_
 simp only [newExc,newTuple]
 refine qaW (qaC ?_ (by size_fits))
 refine qaW (m:=firstArgMember _ _) (wpAny_of_eq (a:=Value.none) (by first | rfl | (simp only [firstArgMember];rfl)) ?_)
 refine qaC ?_ (by size_fits)
 rcases hh with hh | ⟨ha,cls,head,hh,hX⟩
 ·simp only [raiseNew]
  refine qaW (wpAny_handled ?_)
  first | rw [show A.in1.handled=none from hh] | rw [hh]
  refine qaW (qaX (wpAny_throw ?_))
  exact hE _ _ (((Heap.SameBut.update ..).extBut.push _).push _) ⟨_,qar _ rfl,rfl⟩
 have nit:ha≠it:=fun z=>by
  subst z
  obtain ⟨ob,vs,x1,_,_,x4,x5,x6⟩:=hX
  rw [h1] at x1
  cases x1
  rw [h3] at x4
  cases x4
  simp at x5
 have hX1:zgE (s.heap.update it (Obj.mapFields (·.setIfInBounds 0 Value.none))) ha cls head:=by
  obtain ⟨ob,vs,x1,x2⟩:=hX
  exact ⟨ob,vs,(qah _ _ (Ne.symm nit)).trans x1,x2⟩
 obtain ⟨ob,vs,x1,x2⟩:=hX1
 have y1:=qag {cls:= .type "tuple",dict:=none,data:= .seq [].toArray} x1
 refine zcw (h:=ha) (cls:=cls) (head:=head) hh ⟨ob,vs,qag _ y1,x2⟩ (qar _ rfl) rfl (by simp;omega) (qaR (qaQ y1)) ?_
 refine hE _ _ (fun b o hb z=> ?_) ⟨_,qal _ (qar _ rfl) rfl,rfl⟩
 have z1:(s.heap.update it (Obj.mapFields (·.setIfInBounds 0 Value.none))).get? b=some o:=(qah _ _ (Ne.symm hb)).trans z
 have z2:=qag {cls:= .type "tuple",dict:=none,data:= .seq [].toArray} z1
 rw [qah _ _ (Nat.ne_of_gt (qaQ z2))]
 exact qag _ z2
end
theorem zeF {prog:Program} {w:World} {A:Around} (it l:Addr) (hne:l≠it) (items:Array Value):
  Draws prog w A.in1 it (it::l::zaz A) items.size (fun i v=>items[i]? = some v) (fun i h=>h.IsListIter it l i/\h.IsList l items/\zf9 A h/\it∉zaz A) where
 live:=fun _ _ st=>let ⟨o,ho,_⟩:=st.1;⟨o,ho⟩
 frame:=fun _ _ _ st hk=>⟨st.1.at fun o e=>hk it (by simp) o e,st.2.1.at fun o e=>hk l (by simp) o e,st.2.2.1.keep fun b hb o e=>hk b (by simp [hb]) o e,st.2.2.2⟩
 item:=fun i s Q E hi st hQ=>by
  refine wpAny_nextOf_list_item st.1 st.2.1 (x:=items[i]) (by simp [hi]) fun h' hit' hs'=> ?_
  exact hQ _ h' s.toks (by simp [hi]) ⟨hit',st.2.1.extBut hs'.extBut hne,st.2.2.1.keep fun b hb o e=>(hs'.2 b fun z=>st.2.2.2 (z▸hb)).trans e,st.2.2.2⟩ hs'
 done:=fun s Q E st hE=>zbP (A:=A.in1) st.2.2.1 st.1 st.2.1 (by simp) hE
end L3
namespace L2
open PySem PySem.Spec PyProof.Rows
noncomputable def ztk (K:W.Frag) (a:Addr):It:=
 ⟨fun i H=> ∃ xs x,SqL K H a xs/\xs[i]? = some x,fun i H x H'=> ∃ T y,H T=none/\H'=upd H T (.tup [.int i,y])/\x= .ref T/\ ∀ xs,SqL K H a xs->xs[i]? = some y,fun i H=> ∃ xs,SqL K H a xs/\xs.length=i⟩
theorem ziP {P:Program} {w:World} {K:W.Frag} {elts:List Expr} {k:Nat} {pos:Pos} (a e it:Addr) (hei:e≠it):zlC P w K (.Tuple elts k pos) (ztk K a) [e,it] e (fun i h=>(∃ old,IsEnum h e it i old)/\h.IsListIter it a i) where
 mem:=by simp
 obj:=fun i h st b hb=>by
  obtain ⟨⟨old,he⟩,o,ho,hc,hd⟩:=st
  have z:b=e\/b=it:=by simpa using hb
  rcases z with rfl | rfl
  ·exact ⟨_,he,fun v z=>by cases z⟩
  ·exact ⟨o,ho,fun v z=>by rw [hd] at z;cases z⟩
 keep:=fun i h h' st k=>⟨let ⟨old,he⟩:=st.1;⟨old,k e (by simp) _ he⟩,st.2.at fun o q=>k it (by simp) o q⟩
 item:=by
  intro X hP hw hK i pins s σ H E I hf st hg
  subst hP hw hK
  obtain ⟨xs,y,hq,hx⟩:=hg
  obtain ⟨its,rv,p,hz⟩:=I.list hq
  obtain ⟨u,hu,ru⟩:=rv.get hx
  obtain ⟨⟨old,he⟩,hit⟩:=st
  have hfe:=hf e (by simp)
  have hfi:=hf it (by simp)
  obtain ⟨ot,ht,hct,nt,hdt⟩:=p.isList
  obtain ⟨oi,hi,hci,hdi⟩:=id hit
  have hai:a≠it:=fun z=>by
   subst z
   rw [ht] at hi
   cases hi
   rw [hdt] at hdi
   cases hdi
  have hea:e≠a:=fun z=>by
   subst z
   have he':s.heap.get? e=_:=he
   rw [ht] at he'
   cases he'
   cases hdt
  have hin:it∉L3.zaz X.A:=fun z=>by
   rcases I.hand with q | ⟨ha,cls,head,q,ob,vs,x1,_,_,x4,x5,_⟩
   ·unfold L3.zaz at z;rw [q] at z;simp at z
   ·unfold L3.zaz at z
    rw [q] at z
    have:it=ha:=by simpa using z
    subst this
    rw [hi] at x1
    cases x1
    rw [hdi] at x4
    cases x4
    simp at x5
  have hen:e∉L3.zaz X.A:=fun z=>by
   rcases I.hand with q | ⟨ha,cls,head,q,ob,vs,x1,_,_,x4,x5,_⟩
   ·unfold L3.zaz at z;rw [q] at z;simp at z
   ·unfold L3.zaz at z
    rw [q] at z
    have:e=ha:=by simpa using z
    subst this
    have he':s.heap.get? e=_:=he
    rw [x1] at he'
    cases he'
    cases x4
    simp at x5
  have hlt:i<its.toArray.size:=by
   have:=(qac.mp hu).1
   simpa using this
  refine wpAny_pyNext_enum_itemD (L3.zeF (A:=X.A) it a hai its.toArray) he ⟨hit,p.isList,I.hand,hin⟩ hlt hei (by simp [hei,hea,hen]) fun x h1 tk hP ho hs' hT hsz hk=> ?_
  have hxu:x=u:=by
   have:its[i]? = some x:=by simpa using hP
   rw [hu] at this
   exact (Option.some.inj this).symm
  subst hxu
  refine ⟨_,rfl,wpAny_letOwnedTupleGo_enum ho fun h2 he2 hs2=> ?_⟩
  have het:e≠s.heap.objs.size:=qaR (qaQ he)
  have hit':it≠s.heap.objs.size:=qaR (qaQ hi)
  have fresh:=I.hok.fresh (qaV s.heap.objs.size)
  have I1:Inv X pins σ (upd H s.heap.objs.size (.tup [.int i,y])) {s with heap:=s.heap.push {cls:= .type "tuple",data:= .seq #[.int i tk,x]},toks:=tk+1}:=
   I.laid (t':=tk+1) (fun b o q=>qag _ q) (qaV _) (show zbz X.prog X.w _ _ _ (.tup [.int i,y]) from ⟨by show 2<=sizeLine;decide,[.int i tk,x],.cons ⟨tk,rfl⟩ (.cons ru .nil),zi2.new _ _⟩)
  have fe:zfN X pins (upd H s.heap.objs.size (.tup [.int i,y])) e:=⟨by rw [zax het];exact hfe.1,hfe.2⟩
  have fi:zfN X pins (upd H s.heap.objs.size (.tup [.int i,y])) it:=⟨by rw [zax hit'];exact hfi.1,hfi.2⟩
  have I2:Inv X pins σ (upd H s.heap.objs.size (.tup [.int i,y])) {s with heap:=h1,toks:=tk+1}:=I1.turned2 (t':=tk+1) (h':=h1) (fun b o hb1 hb2 q=>by
    rcases Heap.get?_push_cases q with ⟨z1,z2⟩ | z
    · rw [z1,z2];exact hT
    · exact hk b o hb1 hb2 z) fe fi
  obtain ⟨f0,f1,f2,f3,f4,f5⟩:=fe
  have I3:Inv X pins σ (upd H s.heap.objs.size (.tup [.int i,y])) {s with heap:=h2,toks:=tk+1}:=I2.turned (t':=tk+1) (fun b o hb q=>(hs2.2 b hb).trans q) f0 f1 f3 f4 f5
  refine ⟨.ref s.heap.objs.size,_,I3,rfl,⟨s.heap.objs.size,y,fresh,rfl,rfl,fun ys hy=>by rw [I.list_inj hy hq];exact hx⟩,⟨⟨x,by simpa using he2⟩,hs'.1.at fun o q=>(hs2.2 it (Ne.symm hei)).trans q⟩,fun b hb=> ?_⟩
  have z:b=e\/b=it:=by simpa using hb
  rcases z with rfl | rfl
  ·exact f0
  ·exact fi.1
 done:=by
  intro X hP hw hK i pins s σ H E I hf st hg
  subst hP hw hK
  obtain ⟨xs,hq,hx⟩:=hg
  obtain ⟨its,rv,p,hz⟩:=I.list hq
  obtain ⟨⟨old,he⟩,hit⟩:=st
  have hfi:=hf it (by simp)
  obtain ⟨ot,ht,hct,nt,hdt⟩:=p.isList
  obtain ⟨oi,hi,hci,hdi⟩:=id hit
  have hai:a≠it:=fun z=>by
   subst z
   rw [ht] at hi
   cases hi
   rw [hdt] at hdi
   cases hdi
  have hin:it∉L3.zaz X.A:=fun z=>by
   rcases I.hand with q | ⟨ha,cls,head,q,ob,vs,x1,_,_,x4,x5,_⟩
   ·unfold L3.zaz at z;rw [q] at z;simp at z
   ·unfold L3.zaz at z
    rw [q] at z
    have:it=ha:=by simpa using z
    subst this
    rw [hi] at x1
    cases x1
    rw [hdi] at x4
    cases x4
    simp at x5
  have hn:its.toArray.size=i:=by
   have:=rv.length
   simp
   omega
  subst hn
  obtain ⟨f0,f1,f2,f3,f4,f5⟩:=hfi
  exact wpAny_pyNext_enum_endD (L3.zeF (A:=X.A) it a hai its.toArray) he ⟨hit,p.isList,I.hand,hin⟩ fun h' hx'=>⟨rfl,I.turned (t':=s.toks) (fun b o hb q=>hx' b o hb q) f0 f1 f3 f4 f5⟩
 self:=fun _ _ _ _ _ st h=>let ⟨⟨_,he⟩,_⟩:=st;wpAny_pyIter_enum he h
section
variable {X:Cx} {elts:List Expr} {k:Nat} {tpos:Pos}
noncomputable def zqs (K:W.Frag) (ta:TA):TI:=fun σ H R=>ta σ H fun vs H1=> ∃ a,vs=[.ref a]/\(∃ xs,SqL K H1 a xs)/\R (ztk K a) H1
theorem zli {l:Expr} {ta:TA} {p pos:Pos} (hg:Gl X "enumerate") (hm:X.mg "enumerate"=none) (ha:PA X [l] ta) (hs:starEach [l] X.env=[(false,eval l X.env)]:=by rfl):
  PI X (.Tuple elts k tpos) (.Call (.Name "enumerate" p) [l] [] pos) (zqs X.K ta):=by
 intro pins s σ H R I h
 refine Call_ (zd4 I hg hm PyProof.Rows.boot_enumerate (PyProof.Rows.callWith_type1 (thn (ha pos pins s σ H _ I h) fun us s1 ⟨vs,H1,I1,r1,q1⟩=> ?_) hs rfl))
 obtain ⟨a,e,⟨xs,hq⟩,q⟩:=q1
 subst e
 cases r1 with
 | cons r rr=>
  cases rr
  cases r
  obtain ⟨its,rv,p,hz⟩:=I1.list hq
  refine PySem.call_enumerate_list p.isList fun h' he hit hsz kp=> ?_
  refine wpAny_pyIter_enum he ?_
  refine ⟨s1.heap.objs.size+1,[s1.heap.objs.size+1,s1.heap.objs.size],_,_,H1,rfl,I1.kept (t':=s1.toks) kp,ziP a _ _ (Nat.succ_ne_self _),⟨⟨_,he⟩,hit⟩,fun b hb=> ?_,q⟩
  have z:b=s1.heap.objs.size+1\/b=s1.heap.objs.size:=by simpa using hb
  rcases z with rfl | rfl
  ·exact I1.fpOk (Nat.le_succ _) (I1.hok.fresh (Nat.le_succ _))
  ·exact I1.fpOk (qaV _) (I1.hok.fresh (qaV _))
end
end L2
namespace L3
open PySem PySem.Spec PyProof.Rows L2
section
variable {X:Cx} {E:XE} {elts:List Expr} {k:Nat} {tpos pos:Pos}
theorem zk9 {K:W.Frag} {ι:Io} {H:Hp} {a:Addr} {vs:List V} {ds:List D} (h: ∀ ι' H',Pass ι H ι' H'->SqL K H' a vs) (rl:zas K ι H ds vs):zlh K ι H (ztk K a) (zf3 ds) where
 go:=fun ι' H' i s hi=>by
  have hi:i<ds.length:=by simpa [zf3] using hi
  obtain ⟨v,ev,_⟩:=zas.get rl (i:=i) (d:=ds[i]) (by simp [hi])
  exact ⟨vs,v,h ι' H' s,ev⟩
 yld:=fun ι' H' _ i x H2 s hr hi ⟨T,y,hT,e,e2,hy⟩=>by
  subst e e2
  have hi:i<ds.length:=by simpa [zf3] using hi
  obtain ⟨v,ev,rv⟩:=zas.get rl (i:=i) (d:=ds[i]) (by simp [hi])
  have ey:=hy vs (h ι' H' s)
  rw [ev] at ey
  cases ey
  refine ⟨.inr ⟨T,_,hT,rfl⟩,.tup [.int i,ds[i]],by simp [zf3,hi],?_⟩
  obtain ⟨st,hr2⟩:=zpm.step (.inr ⟨T,[.int i,y],hT,rfl⟩) hr
  have rv2:Rel K ι' (upd H' T (.tup [.int i,y])) ds[i] y:=(rv.pass s).step st
  simp only [Rel]
  exact ⟨T,_,rfl,⟨zaH,hr.nin hT⟩,zas.cons (by simp [Rel]) (zas.cons rv2 zas.nil)⟩
 stop:=fun ι' H' s=>⟨vs,h ι' H' s,by rw [<- rl.length];simp [zf3]⟩
noncomputable def zhj (f:FE):FA:=fun sd=>do
 let d<-f sd
 match d with
 | .lst ds=>pure (zf3 ds)
 | _=>M.bad
theorem zjF {l:Expr} {f:FE} {p:Pos} (hm:X.mg "enumerate"=none) (he:SE X E l f) (hg:Gl X "enumerate":=by rfl) (hs:starEach [l] X.env=[(false,eval l X.env)]:=by rfl):SI X E (.Tuple elts k tpos) (.Call (.Name "enumerate" p) [l] [] pos) (zhj f):=by
 refine PI.imp (zli hg hm (zbs he zcU hs) hs) fun σ H Q ⟨ι,h,sd,L,hh,q⟩=>⟨ι,h,sd,L,hh,Fin.bind q fun d h1 ι1 H1 e1 s1 hr1 q1 v rv=> ?_⟩
 cases d with
 | lst ds=>
  obtain ⟨a,vs,e,h1',h2⟩:=zfQ rv
  exact ⟨a,by rw [e],⟨vs,h1' _ _ (Pass.refl _ _)⟩,Fin.out hr1 q1 _ (zk9 h1' h2)⟩
 | _=>exact qa0 q1
end
end L3
namespace L2
open PySem PySem.Spec PyProof.Rows
section
variable {κ:Type} [DecidableEq κ]
noncomputable def zkU (kvs:List (κ×V)) (k:κ) (v:V):List (κ×V):=
 if (kvs.any fun kv=>decide (kv.1=k))=true then kvs.map (fun kv=>if kv.1=k then (kv.1,v) else kv) else kvs++[(k,v)]
theorem zho (kvs:List (κ×V)) (k:κ) (v:V):(zkU kvs k v).length<=kvs.length+1:=by
 unfold zkU
 split
 ·rw [qaH];omega
 ·rw [qav,qaE,qaJ];omega
theorem KV.any {kvs:List (κ×V)} {vs:List (κ×Value)} (r:KV kvs vs) (k:κ):(kvs.any fun kv=>decide (kv.1=k))=vs.any fun kv=>decide (kv.1=k):=by
 unfold KV at r
 induction r with
 | nil=>rfl
 | cons h t ih=>rw [List.any_cons,List.any_cons,ih,h.1]
theorem KV.repl {kvs:List (κ×V)} {vs:List (κ×Value)} (r:KV kvs vs) (k:κ) {y:V} {u:Value} (ry:zby y u):
  KV (kvs.map fun kv=>if kv.1=k then (kv.1,y) else kv) (vs.map fun kv=>if kv.1=k then (kv.1,u) else kv):=by
 unfold KV at r ⊢
 induction r with
 | nil=>exact .nil
 | @cons p q ps qs h t ih=>
  rw [qaM,qaM]
  refine .cons ?_ ih
  obtain ⟨h1,h2⟩:=h
  by_cases e:p.1=k
  ·rw [qa4 e,qa4 (h1.symm.trans e)];exact ⟨h1,ry⟩
  ·rw [qa5 e,qa5 (fun z=>e (h1.trans z))];exact ⟨h1,h2⟩
theorem KV.put {kvs:List (κ×V)} {vs:List (κ×Value)} (r:KV kvs vs) (k:κ) {y:V} {u:Value} (ry:zby y u):KV (zkU kvs k y) (stored vs k u):=by
 unfold zkU stored
 rw [r.any k]
 by_cases e:(vs.any fun kv=>decide (kv.1=k))=true
 ·rw [qa4 e,qa4 e];exact r.repl k ry
 ·rw [qa5 e,qa5 e];exact Paired.snoc r ⟨rfl,ry⟩
theorem KV.length {kvs:List (κ×V)} {vs:List (κ×Value)} (r:KV kvs vs):kvs.length=vs.length:=Paired.length r
end
theorem zqY {P:Program} {w:World} {k:Key} {u:Value} (r:zby (kV k) u):(zdY P w).is k u=true:=by
 cases k with
 | inl i=>obtain ⟨t,e⟩:=(show ∃ t,u=Value.int i t from r);subst e;exact zhJ P w i t
 | inr x=>obtain ⟨t,e⟩:=(show ∃ t,u=Value.str x t from r);subst e;exact zhL P w x t
section
variable {X:Cx}
end
end L2
namespace L3
open PySem PySem.Spec PyProof.Rows L2
section
variable {X:L2.Cx} {E:XE}
noncomputable def zpD (kvs:List (Int×D)) (k:Int) (d:D):List (Int×D):=
 if (kvs.any fun p=>decide (p.1=k))=true then kvs.map (fun p=>if p.1=k then (p.1,d) else p) else kvs++[(k,d)]
noncomputable def zcx (n:Nat):M (List (Int×D)):=fun h=>match h[n]? with
 | some (.dic kvs)=> .ok kvs h
 | _=> .bad
theorem znP {K:W.Frag} {ι:Io} {H:Hp} {kvs:List (Int×D)} {vs:List (Key×V)} {k:Int} {d:D} {v:V} (r:Paired (fun (p:Int×D) (q:Key×V)=>q.1= .inl p.1/\Rel K ι H p.2 q.2) kvs vs) (rv:Rel K ι H d v):
  Paired (fun (p:Int×D) (q:Key×V)=>q.1= .inl p.1/\Rel K ι H p.2 q.2) (zpD kvs k d) (zkU vs (.inl k) v):=by
 have ha:(kvs.any fun p=>decide (p.1=k))=(vs.any fun p=>decide (p.1=(.inl k:Key))):=by
  induction r with
  | nil=>rfl
  | @cons p q ps qs h t ih=>
   rw [List.any_cons,List.any_cons,ih,h.1]
   congr 1
   rw [Bool.eq_iff_iff]
   simp only [qaD]
   exact ⟨fun z=>by rw [z],fun z=>by injection z⟩
 unfold zpD zkU
 rw [ha]
 by_cases e:(vs.any fun p=>decide (p.1=(.inl k:Key)))=true
 ·rw [qa4 e,qa4 e]
  clear ha e
  induction r with
  | nil=>exact .nil
  | @cons p q ps qs h t ih=>
   rw [qaM,qaM]
   refine .cons ?_ ih
   by_cases e:p.1=k
   ·rw [qa4 e,qa4 (by rw [h.1,e])];exact ⟨h.1,rv⟩
   ·rw [qa5 e,qa5 (fun z=>e (by rw [h.1] at z;injection z))];exact h
 ·rw [qa5 e,qa5 e]
  exact Paired.snoc r ⟨rfl,rv⟩
end
open LT
section
variable {h:Hh}
end
end L3
namespace L3
open PySem PySem.Spec PyProof.Rows L2
structure Fd (K:W.Frag) (x:Str) (st:Stmt) (a:Addr) (d:FuncData):Prop where
 e:W.nsIn K mainGlobals x=some (some (.ref a))
 F:Fun K x x st a d
section
variable {X:Cx} {E:XE}
noncomputable def zhr (x y:D):M D:=match x,y with
 | .lst xs,.int k=>if 0<=k/\k<1000/\xs.length*k.toNat<=sizeLine then pure (.lst (List.replicate k.toNat xs).flatten) else M.bad
 | _,_=>M.bad
theorem zj7:OpR X (binaryOp .Mult) (zc7 X.K E zhr):=by
 refine OpR.imp zre fun x y H Q ⟨ι,h,d1,d2,r1,r2,hr,q⟩=> ?_
 unfold zhr at q
 split at q
 ·simp only [Rel] at r1 r2
  obtain ⟨a,vs,e,k1,k2⟩:=r1
  obtain ⟨⟨c2,c3,c4⟩,q⟩:=Fin.guard q
  exact ⟨a,_,vs,e,r2,k1.1,by omega,by omega,by rw [<- k2.length];exact c4,fun p hp=>zr4 hr (k2.rep _) q hp⟩
 ·exact qa0 q
end
end L3
namespace L3
open PySem PyProof.Rows HT
section
open PySem.SeqAt
open PySem.AutoSeq1 (wpAny_loadPart')
open PySem.MeetsSeq PySem.MeetsSeq2 PySem.MeetsSeq3
end
section
variable {prog:Program} {w:World} {A:Around} {E:Value->Shared->Prop} {s:Shared}
end
end L3
namespace L3
open PySem PyProof.Rows
section
open PySem.SeqAt
open PySem.AutoSeq1 (wpAny_loadPart')
open PySem.MeetsSeq PySem.MeetsSeq2 PySem.MeetsSeq3
section
variable {prog:Program} {w:World} {A:Around} {E:Value->Shared->Prop} {s:Shared}
end
end
open PySem.Spec L2
section
variable {X:Cx} {E:XE}
end
end L3
namespace L2
open PySem PySem.Spec PyProof.Rows
section
variable {X:Cx}
theorem zjG:zaZ X (.builtin "abs") (fun xs H Q=> ∃ i,xs=[.int i]/\Q (.int (if i<0 then -i else i)) H):=by
 intro pins s σ H xs us Q I r h
 obtain ⟨i,rfl,q⟩:=h
 obtain ⟨u,rfl,t,rfl⟩:=zef r
 exact call_abs_int fun u tk=>⟨.int (if i<0 then -i else i),H,I.tok _,⟨_,rfl⟩,q⟩
end
end L2
namespace L3
open PySem PySem.Spec PyProof.Rows L2
section
variable {X:Cx} {E:XE}
noncomputable def zr2:List D->M D
 | [.int i]=>pure (.int (if i<0 then -i else i))
 | _=>M.bad
theorem zgX:zaZ X (.builtin "abs") (zhU X.K E zr2):=by
 refine zaZ.imp zjG fun xs H Q ⟨ι,h,ds,rl,hr,q⟩=> ?_
 unfold zr2 at q
 split at q
 ·simp only [zas,Rel] at rl
  obtain ⟨v,r,rfl,rfl,rfl⟩:=rl
  exact ⟨_,rfl,Fin.out hr q _ (by simp [Rel])⟩
 ·exact qa0 q
noncomputable def zpA (i j:Nat) (fs:FA):FS:=fun sd=>do let ds<-fs sd;match ds with | [d,d']=>pure (.nx ((sd.set i (some d)).set j (some d'))) | _=>M.bad
theorem zsj {x y:Str} {a b:Expr} {fs:FA} {px py pt pos:Pos} {kt k2 pt2} (i j:Nat) (hc:X.calm=true) (hN:X.N.Nodup) (ha:SA X E [a,b] fs) (hi:X.N[i]? = some x:=by rfl) (hj:X.N[j]? = some y:=by rfl) (hij:i≠j:=by decide)
  (hx:X.env.scope.names.lookup x=some .local:=by rfl) (hy:X.env.scope.names.lookup y=some .local:=by rfl)
  (hw:swappedStores [.Tuple [.Name x px,.Name y py] kt pt] (.Tuple [a,b] k2 pt2) X.env=pure (some [x,y]):=by rfl)
  (hs:swapsWithSole [.Tuple [.Name x px,.Name y py] kt pt] (.Tuple [a,b] k2 pt2) pos.line X.env=pure false:=by rfl):
  SS X E (.Assign [.Tuple [.Name x px,.Name y py] kt pt] (.Tuple [a,b] k2 pt2) pos) (zpA i j fs):=zta (zrG hc hN hi hj hij hx hy ha hw hs)
end
open Classical in
section
variable {X:Cx} {E:XE} {scope:Scope} {N:List Str} {src:List (Option Nat)} {tg iter elt:Expr} {ifs:List Expr} {pos:Pos}
end
end L3
namespace L3
open PySem PySem.Spec PyProof.Rows L2
section
variable {X:Cx} {E:XE} {pos:Pos}
end
end L3
namespace L2
open PySem PySem.Spec PyProof.Rows
section
variable {X:Cx}
noncomputable def atK (kvs:List (Key×V)) (k:Key):Option V:=(kvs.find? fun q=>decide (q.1=k)).map (·.2)
theorem zk8 {kvs:List (Key×V)} {us:List (Key×Value)} (r:KV kvs us) {k:Key} {v:V} (e:atK kvs k=some v): ∃ w,valueAt us k=some w/\zby v w:=by
 unfold KV at r
 induction r with
 | nil=>cases e
 | @cons p q ps qs h t ih=>
  by_cases hk:p.1=k
  ·have e2:atK (p::ps) k=some p.2:=by simp [atK,List.find?_cons,hk]
   rw [e2] at e
   cases e
   exact ⟨q.2,by simp [valueAt,List.find?_cons,h.1.symm.trans hk],h.2⟩
  ·have hk': ¬q.1=k:=fun z=>hk (h.1.trans z)
   have e2:atK (p::ps) k=atK ps k:=by simp [atK,List.find?_cons,hk]
   rw [e2] at e
   obtain ⟨w,hw,rw'⟩:=ih e
   exact ⟨w,by rw [<- hw];simp [valueAt,List.find?_cons,hk'],rw'⟩
end
end L2
namespace L3
open PySem PySem.Spec PyProof.Rows L2
section
variable {X:L2.Cx} {E:XE}
theorem zln:OpR X (binaryOp .FloorDiv) (rI (fun _ j=>0<j/\j<2^8000) fun i j=> .int (i / j)):=opI fun i j _ _ _ _ _ hc q=>by
 refine floordiv_int (by omega) (by rw [Int.fdiv_eq_ediv_of_nonneg _ (by omega)];exact q) (.inl (PyProof.noPylong_of_log2 ?_))
 have h1:j.natAbs<2^8000:=by omega
 have h0:j.natAbs≠0:=by omega
 exact Nat.lt_trans ((Nat.log2_lt h0).mpr h1) (by decide)
noncomputable def zdE:=dII (fun _ j=>decide (0<j) && decide (j<2^8000)) fun i j=> .int (i / j)
theorem zdF:OpR X (binaryOp .FloorDiv) (zc7 X.K E zdE):=zhP zln (fun i j h=>by simpa using h) fun _ _ _ _=>by simp [Rel]
end
section
variable {X:L2.Cx} {E:XE}
end
end L3
namespace L2
open PySem PySem.Spec PyProof.Rows
section
variable {X:Cx}
end
end L2
namespace L3
open PySem PySem.Spec PyProof.Rows L2
section
variable {X:L2.Cx} {E:XE}
end
end L3
namespace L3
open PySem
open Sem (wp)
section
variable {prog:Program} {w:World} {A:Around} {E:Value->Shared->Prop} {s:Shared}
theorem ze0 {z TI TO i1 i2 l1 l2:Addr} {k1 k2:Nat} {xs ys:Array Value} {x y a b:Value} {Q:Value->Shared->Prop} (D:ZipApart z TI TO i1 i2 l1 l2)
  (hz:IsZip s.heap z TI TO .none) (hTI:IsPair s.heap TI (.ref i1) (.ref i2)) (hTO:IsPair s.heap TO a b)
  (h1:s.heap.IsTupleIter i1 l1 k1) (h2:s.heap.IsTupleIter i2 l2 k2) (hl1:s.heap.IsTuple l1 xs) (hl2:s.heap.IsTuple l2 ys) (hx:xs[k1]? = some x) (hy:ys[k2]? = some y)
  (hQ: ∀ h',IsZip h' z TI TO (rawInt s.heap.objs.size)->IsPair h' TO x y->h'.IsTupleIter i1 l1 (k1+1)->h'.IsTupleIter i2 l2 (k2+1)->IsPair h' s.heap.objs.size x y->h'.objs.size=s.heap.objs.size+1->
    (∀ c o,c≠z->c≠TO->c≠i1->c≠i2->s.heap.get? c=some o->h'.get? c=some o)->Q (.ref s.heap.objs.size) {s with heap:=h'}):
  wpAny (model prog w) A (Builtin.«zip.__next__» ⟨[.ref z],[]⟩) (fun fin s'=> ∃ v,fin= .done (.ret v)/\Q v s') E s:=by
 show wpAny _ _ (field (.ref z) 2>>=_) _ _ _
 refine qaW (wpAny_field hz rfl (x:= .bool false) rfl ?_)
 show wpAny _ _ (field (.ref z) 3>>=_) _ _ _
 refine qaW (wpAny_field hz rfl (x:= .ref TI) rfl ?_)
 refine qaW (wpAny_seqItems hTI rfl ?_)
 show wpAny _ _ (Builtin.SmallTypes.ownedTupleIsFree (.ref z)>>=_) _ _ _
 refine qaW ?_
 unfold Builtin.SmallTypes.ownedTupleIsFree
 refine qaW (wpAny_field hz rfl (x:= .none) rfl (qaX ?_))
 simp only [if_true]
 refine qaW (wpAny_rule ?_)
 refine qaW (wpAny_field hz rfl (x:= .ref TO) rfl ?_)
 refine qaW (wpAny_setField_rec hz (by simp) fun h₁ hz₁ hs₁=> ?_)
 replace hz₁:IsZip h₁ z TI TO .ellipsis:=hz₁
 refine qaW ?_
 simp only [List.zipIdx_cons,List.zipIdx_nil,List.forIn_cons,List.forIn_nil]
 refine qaW (qaW (wpAny_onRaise ?_))
 show wpAny _ _ (Builtin.SmallTypes.nextOf (.ref i1)>>=_) _ _ _
 refine qaW (zbi (h1.extBut hs₁.extBut D.i1z) (hl1.extBut hs₁.extBut D.l1z) hx fun h₂ h1₂ hs₂=>qaX ?_)
 have hTO₂:IsPair h₂ TO a b:=hs₂.extBut _ _ D.TOi1 (hs₁.extBut _ _ D.TOz hTO)
 refine qaW (wpAny_seqItems hTO₂ rfl ?_)
 refine qaW (wpAny_updateSeq_pair hTO₂ fun h₃ hTO₃ hs₃=> ?_)
 replace hTO₃:IsPair h₃ TO x b:=hTO₃
 refine qaW (wpAny_letGo (qaX ?_))
 refine qaW (qaW (wpAny_onRaise ?_))
 show wpAny _ _ (Builtin.SmallTypes.nextOf (.ref i2)>>=_) _ _ _
 refine qaW (zbi (((h2.extBut hs₁.extBut D.i2z).extBut hs₂.extBut D.i12.symm).extBut hs₃.extBut D.TOi2.symm)
   (((hl2.extBut hs₁.extBut D.l2z).extBut hs₂.extBut D.l2i1).extBut hs₃.extBut D.l2TO) hy fun h₄ h2₄ hs₄=>qaX ?_)
 have hTO₄:IsPair h₄ TO x b:=hs₄.extBut _ _ D.TOi2 hTO₃
 refine qaW (wpAny_seqItems hTO₄ rfl ?_)
 refine qaW (wpAny_updateSeq_pair hTO₄ fun h₅ hTO₅ hs₅=> ?_)
 replace hTO₅:IsPair h₅ TO x y:=hTO₅
 refine qaW (wpAny_letGo (qaX (qaX ?_)))
 refine qaW (wpAny_seqItems hTO₅ rfl ?_)
 refine qaW (wpAny_newTuple ?_)
 have hsz:h₅.objs.size=s.heap.objs.size:=by rw [hs₅.1,hs₄.1,hs₃.1,hs₂.1,hs₁.1]
 have hz₅:IsZip h₅ z TI TO .ellipsis:=hs₅.extBut _ _ D.TOz.symm (hs₄.extBut _ _ D.i2z.symm (hs₃.extBut _ _ D.TOz.symm (hs₂.extBut _ _ D.i1z.symm hz₁)))
 have hk₅: ∀ c o,c≠z->c≠TO->c≠i1->c≠i2->s.heap.get? c=some o->h₅.get? c=some o:=fun c o c1 c2 c3 c4 e=>
  hs₅.extBut _ _ c2 (hs₄.extBut _ _ c4 (hs₃.extBut _ _ c2 (hs₂.extBut _ _ c3 (hs₁.extBut _ _ c1 e))))
 have h1₅:h₅.IsTupleIter i1 l1 (k1+1):=((h1₂.extBut hs₃.extBut D.TOi1.symm).extBut hs₄.extBut D.i12).extBut hs₅.extBut D.TOi1.symm
 have h2₅:h₅.IsTupleIter i2 l2 (k2+1):=h2₄.extBut hs₅.extBut D.TOi2.symm
 have hzlt:z<h₅.objs.size:=qaQ hz₅
 have hTOlt:TO<h₅.objs.size:=qaQ hTO₅
 have hi1lt:i1<h₅.objs.size:=by obtain ⟨_,e,_⟩:=h1₅;exact qaQ e
 have hi2lt:i2<h₅.objs.size:=by obtain ⟨_,e,_⟩:=h2₅;exact qaQ e
 show wpAny _ _ (Builtin.SmallTypes.ownedTupleHandOut (.ref z) (.ref h₅.objs.size)>>=_) _ _ _
 refine qaW ?_
 unfold Builtin.SmallTypes.ownedTupleHandOut
 have hz₆:IsZip (h₅.push {cls:= .type "tuple",data:= .seq #[x,y]}) z TI TO .ellipsis:=qag _ hz₅
 refine qaW (wpAny_setField_rec hz₆ (by simp) fun h₇ hz₇ hs₇=> ?_)
 replace hz₇:IsZip h₇ z TI TO (rawInt h₅.objs.size):=hz₇
 refine wpAny_setField_rec hz₇ (by simp) fun h₈ hz₈ hs₈=> ?_
 replace hz₈:IsZip h₈ z TI TO (rawInt h₅.objs.size):=hz₈
 have up: ∀ c o,c≠z->h₅.get? c=some o->h₈.get? c=some o:=fun c o c1 e=>hs₈.extBut _ _ c1 (hs₇.extBut _ _ c1 (qag _ e))
 have hT₈:IsPair h₈ h₅.objs.size x y:=hs₈.extBut _ _ (Nat.ne_of_gt hzlt) (hs₇.extBut _ _ (Nat.ne_of_gt hzlt) (qar _ rfl))
 have hz8:h₈.objs.size=h₅.objs.size+1:=by rw [hs₈.1,hs₇.1,qaL]
 rw [hsz] at hz₈ hT₈ hz8
 refine qaX ⟨_,rfl,?_⟩
 show Q (.ref h₅.objs.size) _
 rw [hsz]
 exact hQ h₈ hz₈ (up _ _ D.TOz hTO₅) (h1₅.at fun o e=>up _ o D.i1z e) (h2₅.at fun o e=>up _ o D.i2z e) hT₈ hz8 fun c o c1 c2 c3 c4 e=>up c o c1 (hk₅ c o c1 c2 c3 c4 e)
theorem zfL {z TI TO i1 i2 l1 l2:Addr} {k1 k2:Nat} {xs ys:Array Value} {a b:Value} {Q:PySem.Fin->Shared->Prop} (hh:zf9 A s.heap) (hf:z∉zaz A/\TO∉zaz A/\i1∉zaz A/\i2∉zaz A) (D:ZipApart z TI TO i1 i2 l1 l2)
  (hz:IsZip s.heap z TI TO .none) (hTI:IsPair s.heap TI (.ref i1) (.ref i2)) (hTO:IsPair s.heap TO a b)
  (h1:s.heap.IsTupleIter i1 l1 k1) (h2:s.heap.IsTupleIter i2 l2 k2) (hl1:s.heap.IsTuple l1 xs) (hl2:s.heap.IsTuple l2 ys) (hend:xs[k1]? = none\/ys[k2]? = none)
  (hE: ∀ h' e,(∀ c o,c≠z->c≠TO->c≠i1->c≠i2->s.heap.get? c=some o->h'.get? c=some o)->(∃ o,h'.get? e=some o/\o.cls= .type "StopIteration")->E (.ref e) {s with heap:=h'}):
  wpAny (model prog w) A (Builtin.«zip.__next__» ⟨[.ref z],[]⟩) Q E s:=by
 show wpAny _ _ (field (.ref z) 2>>=_) _ _ _
 refine qaW (wpAny_field hz rfl (x:= .bool false) rfl ?_)
 show wpAny _ _ (field (.ref z) 3>>=_) _ _ _
 refine qaW (wpAny_field hz rfl (x:= .ref TI) rfl ?_)
 refine qaW (wpAny_seqItems hTI rfl ?_)
 show wpAny _ _ (Builtin.SmallTypes.ownedTupleIsFree (.ref z)>>=_) _ _ _
 refine qaW ?_
 unfold Builtin.SmallTypes.ownedTupleIsFree
 refine qaW (wpAny_field hz rfl (x:= .none) rfl (qaX ?_))
 simp only [if_true]
 refine qaW (wpAny_rule ?_)
 refine qaW (wpAny_field hz rfl (x:= .ref TO) rfl ?_)
 refine qaW (wpAny_setField_rec hz (by simp) fun h₁ hz₁ hs₁=> ?_)
 replace hz₁:IsZip h₁ z TI TO .ellipsis:=hz₁
 refine qaW ?_
 simp only [List.zipIdx_cons,List.zipIdx_nil,List.forIn_cons,List.forIn_nil]
 refine qaW (qaW (wpAny_onRaise ?_))
 show wpAny _ _ (Builtin.SmallTypes.nextOf (.ref i1)>>=_) _ _ _
 cases hx:xs[k1]? with
 | none=>
  refine qaW (zbR (hh.keep fun b hb o e=>hs₁.extBut _ _ (fun z=>hf.1 (z▸hb)) e) (h1.extBut hs₁.extBut D.i1z) (hl1.extBut hs₁.extBut D.l1z) hx fun h₂ e hs₂ he=> ?_)
  obtain ⟨oe,hoe,hce⟩:=he
  have hz₂:IsZip h₂ z TI TO .ellipsis:=hs₂ _ _ D.i1z.symm hz₁
  have hez:e≠z:=fun x=>by subst x;rw [hz₂] at hoe;cases hoe;simp at hce
  refine wpAny_setField_rec hz₂ (by simp) fun h₃ _ hs₃=>hE h₃ e (fun c o c1 _ c3 _ x=>hs₃.extBut _ _ c1 (hs₂ _ _ c3 (hs₁.extBut _ _ c1 x))) ⟨oe,hs₃.extBut _ _ hez hoe,hce⟩
 | some x=>
  have hy:ys[k2]? = none:=by rcases hend with h | h;rw [hx] at h;cases h;exact h
  refine qaW (zbi (h1.extBut hs₁.extBut D.i1z) (hl1.extBut hs₁.extBut D.l1z) hx fun h₂ h1₂ hs₂=>qaX ?_)
  have hTO₂:IsPair h₂ TO a b:=hs₂.extBut _ _ D.TOi1 (hs₁.extBut _ _ D.TOz hTO)
  refine qaW (wpAny_seqItems hTO₂ rfl ?_)
  refine qaW (wpAny_updateSeq_pair hTO₂ fun h₃ hTO₃ hs₃=> ?_)
  refine qaW (wpAny_letGo (qaX ?_))
  refine qaW (qaW (wpAny_onRaise ?_))
  show wpAny _ _ (Builtin.SmallTypes.nextOf (.ref i2)>>=_) _ _ _
  refine qaW (zbR (hh.keep fun b hb o e=>hs₃.extBut _ _ (fun z=>hf.2.1 (z▸hb)) (hs₂.extBut _ _ (fun z=>hf.2.2.1 (z▸hb)) (hs₁.extBut _ _ (fun z=>hf.1 (z▸hb)) e))) (((h2.extBut hs₁.extBut D.i2z).extBut hs₂.extBut D.i12.symm).extBut hs₃.extBut D.TOi2.symm)
    (((hl2.extBut hs₁.extBut D.l2z).extBut hs₂.extBut D.l2i1).extBut hs₃.extBut D.l2TO) hy fun h₄ e hs₄ he=> ?_)
  obtain ⟨oe,hoe,hce⟩:=he
  have hz₄:IsZip h₄ z TI TO .ellipsis:=hs₄ _ _ D.i2z.symm (hs₃.extBut _ _ D.TOz.symm (hs₂.extBut _ _ D.i1z.symm hz₁))
  have hez:e≠z:=fun x=>by subst x;rw [hz₄] at hoe;cases hoe;simp at hce
  refine wpAny_setField_rec hz₄ (by simp) fun h₅ _ hs₅=>hE h₅ e (fun c o c1 c2 c3 c4 x=>hs₅.extBut _ _ c1 (hs₄ _ _ c4 (hs₃.extBut _ _ c2 (hs₂.extBut _ _ c3 (hs₁.extBut _ _ c1 x))))) ⟨oe,hs₅.extBut _ _ hez hoe,hce⟩
theorem zeg {z TI TO i1 i2 l1 l2:Addr} {k1 k2:Nat} {xs ys:Array Value} {x y a b:Value} {Q:Option Value->Shared->Prop} (D:ZipApart z TI TO i1 i2 l1 l2)
  (hz:IsZip s.heap z TI TO .none) (hTI:IsPair s.heap TI (.ref i1) (.ref i2)) (hTO:IsPair s.heap TO a b)
  (h1:s.heap.IsTupleIter i1 l1 k1) (h2:s.heap.IsTupleIter i2 l2 k2) (hl1:s.heap.IsTuple l1 xs) (hl2:s.heap.IsTuple l2 ys) (hx:xs[k1]? = some x) (hy:ys[k2]? = some y)
  (hQ: ∀ h',IsZip h' z TI TO (rawInt s.heap.objs.size)->IsPair h' TO x y->h'.IsTupleIter i1 l1 (k1+1)->h'.IsTupleIter i2 l2 (k2+1)->IsPair h' s.heap.objs.size x y->h'.objs.size=s.heap.objs.size+1->
    (∀ c o,c≠z->c≠TO->c≠i1->c≠i2->s.heap.get? c=some o->h'.get? c=some o)->Q (some (.ref s.heap.objs.size)) {s with heap:=h'}):
  wpAny (model prog w) A (pyNext (.ref z)) Q E s:=by
 have hT:s.TypeIs (.ref z) "zip":=⟨_,hz,rfl⟩
 unfold pyNext
 exact qaW (wpAny_attempt (wpAny_callSpecial?_slot (name:=Str.ofString "__next__") hT F.slot_zip_next
   (wpAny_call_entry F.slot_zip_next hT F.entry_zip_next
     (ze0 D hz hTI hTO h1 h2 hl1 hl2 hx hy fun h' a1 a2 a3 a4 a5 a6 a7=>qaX (hQ h' a1 a2 a3 a4 a5 a6 a7)) (F.args_zip_next_1 _))))
theorem zeT {z TI TO i1 i2 l1 l2:Addr} {k1 k2:Nat} {xs ys:Array Value} {a b:Value} {Q:Option Value->Shared->Prop} (hh:zf9 A s.heap) (hf:z∉zaz A/\TO∉zaz A/\i1∉zaz A/\i2∉zaz A) (D:ZipApart z TI TO i1 i2 l1 l2)
  (hz:IsZip s.heap z TI TO .none) (hTI:IsPair s.heap TI (.ref i1) (.ref i2)) (hTO:IsPair s.heap TO a b)
  (h1:s.heap.IsTupleIter i1 l1 k1) (h2:s.heap.IsTupleIter i2 l2 k2) (hl1:s.heap.IsTuple l1 xs) (hl2:s.heap.IsTuple l2 ys) (hend:xs[k1]? = none\/ys[k2]? = none)
  (hQ: ∀ h',(∀ c o,c≠z->c≠TO->c≠i1->c≠i2->s.heap.get? c=some o->h'.get? c=some o)->Q none {s with heap:=h'}):wpAny (model prog w) A (pyNext (.ref z)) Q E s:=by
 have hT:s.TypeIs (.ref z) "zip":=⟨_,hz,rfl⟩
 unfold pyNext
 refine qaW (wpAny_attempt (wpAny_callSpecial?_slot (name:=Str.ofString "__next__") hT F.slot_zip_next
   (wpAny_call_entry F.slot_zip_next hT F.entry_zip_next (zfL (A:=A.in1) hh hf D hz hTI hTO h1 h2 hl1 hl2 hend fun h' e hk he=> ?_) (F.args_zip_next_1 _))))
 obtain ⟨o,ho,hc⟩:=he
 refine qaW (wpAny_isInstance (T:="StopIteration") (b:=true) ⟨o,ho,hc⟩ isSubtype_stop ?_)
 exact qaX (hQ _ hk)
end
noncomputable abbrev zlP (h:Heap) (l1:Addr):Heap:=h.push {cls:= .type "tuple_iterator",data:= .fields #[.ref l1,.int 0 0]}
noncomputable abbrev zlm (h:Heap) (l1 l2:Addr):Heap:=(zlP h l1).push {cls:= .type "tuple_iterator",data:= .fields #[.ref l2,.int 0 0]}
noncomputable abbrev zmv (h:Heap) (l1 l2:Addr):Heap:=(zlm h l1 l2).push {cls:= .type "tuple",data:= .seq #[.ref h.objs.size,.ref (zlP h l1).objs.size]}
noncomputable abbrev zmA (h:Heap) (l1 l2:Addr):Heap:=(zmv h l1 l2).push {cls:= .type "tuple",data:= .seq #[.none,.none]}
noncomputable abbrev zhg (h:Heap) (l1 l2:Addr):Heap:=(zmA h l1 l2).push {cls:= .type "zip",data:= .fields #[.none,.bool false,.bool false,.ref (zlm h l1 l2).objs.size,.ref (zmv h l1 l2).objs.size]}
theorem ze1 (l1 l2:Addr) (xs ys:Array Value):
  Meets (Builtin.«zip.__new__» ⟨[.type "zip",.ref l1,.ref l2],[]⟩) (fun _ R s=>s.heap.IsTuple l1 xs/\s.heap.IsTuple l2 ys/\
    R (.ok (.ret (.ref (zmA s.heap l1 l2).objs.size))) {s with heap:=zhg s.heap l1 l2}):=
 .of_wp fun prog w A R s h=>by
  obtain ⟨hp,g,d,tk,os⟩:=s;obtain ⟨hl1,hl2,h⟩:=h
  have hsub:=sub_zip
  have hL1:Heap.IsTuple (Shared.heap ⟨hp,g,d,tk,os⟩) l1 xs:=hl1
  have hL2:Heap.IsTuple (Shared.heap ⟨hp.push {cls:= .type "tuple_iterator",data:= .fields #[.ref l1,.int 0 0]},g,d,tk,os⟩) l2 ys:=Heap.IsTuple.push hl2 _
  wp_walk using wpAny_pyIter_tuple hL1,wpAny_pyIter_tuple hL2
  exact ⟨_,rfl,h⟩
section
variable {prog:Program} {w:World} {A:Around} {E:Value->Shared->Prop} {s:Shared}
theorem zi0 {l1 l2:Addr} {xs ys:Array Value} {Q:Value->Shared->Prop} (hl1:s.heap.IsTuple l1 xs) (hl2:s.heap.IsTuple l2 ys)
  (h: ∀ h',IsZip h' (s.heap.objs.size+4) (s.heap.objs.size+2) (s.heap.objs.size+3) .none->IsPair h' (s.heap.objs.size+2) (.ref s.heap.objs.size) (.ref (s.heap.objs.size+1))->
    IsPair h' (s.heap.objs.size+3) .none .none->h'.IsTupleIter s.heap.objs.size l1 0->h'.IsTupleIter (s.heap.objs.size+1) l2 0->h'.objs.size=s.heap.objs.size+5->
    (∀ c o,s.heap.get? c=some o->h'.get? c=some o)->Q (.ref (s.heap.objs.size+4)) {s with heap:=h'}):
  wpAny (model prog w) A (call (.type "zip") [.ref l1,.ref l2]) Q E s:=by
 refine callType_new F.called_zip (by decide) (F.typeCall_zip_2 _ _) (F.newCall_zip_2 _ _) (fun obj=>F.args_object_init_3 obj _ _) F.entry_zip_new
  (ze1 l1 l2 xs ys) ⟨hl1,hl2,?_⟩
 have z1:(zlP s.heap l1).objs.size=s.heap.objs.size+1:=qaL ..
 have z2:(zlm s.heap l1 l2).objs.size=s.heap.objs.size+2:=by rw [qaL,z1]
 have z3:(zmv s.heap l1 l2).objs.size=s.heap.objs.size+3:=by rw [qaL,z2]
 have z4:(zmA s.heap l1 l2).objs.size=s.heap.objs.size+4:=by rw [qaL,z3]
 have z5:(zhg s.heap l1 l2).objs.size=s.heap.objs.size+5:=by rw [qaL,z4]
 have g5:(zhg s.heap l1 l2).get? (zmA s.heap l1 l2).objs.size=some _:=qar _ rfl
 have g4:(zhg s.heap l1 l2).get? (zmv s.heap l1 l2).objs.size=some _:=qag _ (qar _ rfl)
 have g3:(zhg s.heap l1 l2).get? (zlm s.heap l1 l2).objs.size=some _:=qag _ (qag _ (qar _ rfl))
 have g2:(zhg s.heap l1 l2).get? (zlP s.heap l1).objs.size=some _:=qag _ (qag _ (qag _ (qar _ rfl)))
 have g1:(zhg s.heap l1 l2).get? s.heap.objs.size=some _:=qag _ (qag _ (qag _ (qag _ (qar _ rfl))))
 show _/\_
 rw [z2,z3,z4] at g5
 rw [z1,z2] at g3
 rw [z3] at g4
 rw [z1] at g2
 rw [z4]
 exact ⟨⟨_,g5,rfl⟩,h _ g5 g3 g4 ⟨_,g1,rfl,rfl⟩ ⟨_,g2,rfl,rfl⟩ z5 fun c o x=>
   qag _ (qag _ (qag _ (qag _ (qag _ x))))⟩
end
end L3
namespace L2
open PySem PySem.Spec PyProof.Rows
section
variable {X:Cx} {pins:List (Addr×Obj)} {σ:St} {H:Hp} {s:Shared} {h':Heap}
theorem Inv.turnedL {t':Nat} {ch:List Addr} (I:Inv X pins σ H s) (k: ∀ b o,b∉ch->s.heap.get? b=some o->h'.get? b=some o) (f: ∀ b∈ch,zfN X pins H b):Inv X pins σ H {s with heap:=h',toks:=t'}:=by
 have ne: ∀ b u,H b=some u->b∉ch:=fun b u q z=>by rw [(f b z).1] at q;cases q
 refine I.step (g':=s.gens) (d':=s.drawn) (ch:=ch) (fun b hb=> ?_) (fun b o _ _ hc q _=>k b o hc q) (fun b o _ _ hc q _=>⟨o.slots,k b o hc q⟩) (fun _ _ _ _ n=>n)
  (fun b o hc q=>⟨o,k b o hc q⟩) (fun _ _ q=>q) (fun _ _ _ q=>q) (fun b ps q=>⟨#[],by rw [q];simp⟩) (fun m hm=> ?_) (fun b u q=> ?_) I.bare
 ·obtain ⟨f0,f1,f2,f3,f4,f5⟩:=f b hb
  exact ⟨f3,f1,f4,f5⟩
 ·obtain ⟨o,es,ep,ho,r⟩:=hm
  exact ⟨o,es,ep,k _ o (fun z=>(f _ z).2.1 rfl) ho,r⟩
 ·refine (I.hok b u q).stay (fun c v hc q'=> ?_) (fun _ q=>q) fun _ _ q=>q
  rcases hc with z | z
  ·rw [z];exact k b v (ne b u q) (by rw [<- z];exact q')
  ·exact k c v (ne c _ z) q'
theorem zce {A:Around} {h:Heap} {b:Addr} {o:Obj} (hh:L3.zf9 A h) (e:h.get? b=some o) (n: ∀ vs,o.data= .fields vs->vs[2]? ≠ some .none):b∉L3.zaz A:=fun z=>by
 rcases hh with q | ⟨ha,cls,head,q,ob,vs,x1,_,_,x4,x5,_⟩
 ·unfold L3.zaz at z;rw [q] at z;simp at z
 ·unfold L3.zaz at z
  rw [q] at z
  have:b=ha:=by simpa using z
  subst this
  rw [e] at x1
  cases x1
  exact n vs x4 x5
end
noncomputable def Itz (K:W.Frag) (a b:Addr):It:=
 ⟨fun i H=> ∃ xs ys x y,SqT K H a xs/\SqT K H b ys/\xs[i]? = some x/\ys[i]? = some y,
  fun i H x H'=> ∃ T u v,H T=none/\H'=upd H T (.tup [u,v])/\x= .ref T/\(∀ xs,SqT K H a xs->xs[i]? = some u)/\ ∀ ys,SqT K H b ys->ys[i]? = some v,
  fun i H=> ∃ xs ys,SqT K H a xs/\SqT K H b ys/\(xs.length=i\/ys.length=i)⟩
theorem znp {n a b:Nat} (ha:a<n) (hb:b<n):ZipApart (n+4) (n+2) (n+3) n (n+1) a b:=by
 constructor<;>(show @Ne Nat _ _;omega)
def ztF (z TI TO i1 i2 a b:Addr) (i:Nat) (h:Heap):Prop:=IsZip h z TI TO .none/\IsPair h TI (.ref i1) (.ref i2)/\(∃ u v,IsPair h TO u v)/\h.IsTupleIter i1 a i/\h.IsTupleIter i2 b i
theorem zlA {P:Program} {w:World} {K:W.Frag} {elts:List Expr} {k:Nat} {pos:Pos} (z TI TO i1 i2 a b:Addr) (D:ZipApart z TI TO i1 i2 a b):zlC P w K (.Tuple elts k pos) (Itz K a b) [z,TI,TO,i1,i2] z (ztF z TI TO i1 i2 a b) where
 mem:=by simp
 obj:=fun i h st c hc=>by
  obtain ⟨hz,hTI,⟨u,v,hTO⟩,⟨o1,ho1,hc1,hd1⟩,o2,ho2,hc2,hd2⟩:=st
  have q:c=z\/c=TI\/c=TO\/c=i1\/c=i2:=by simpa using hc
  rcases q with rfl | rfl | rfl | rfl | rfl
  ·exact ⟨_,hz,fun v z=>by cases z⟩
  ·exact ⟨_,hTI,fun v z=>by cases z⟩
  ·exact ⟨_,hTO,fun v z=>by cases z⟩
  ·exact ⟨o1,ho1,fun v z=>by rw [hd1] at z;cases z⟩
  ·exact ⟨o2,ho2,fun v z=>by rw [hd2] at z;cases z⟩
 keep:=fun i h h' st k=>by
  obtain ⟨hz,hTI,⟨u,v,hTO⟩,h1,h2⟩:=st
  exact ⟨k z (by simp) _ hz,k TI (by simp) _ hTI,⟨u,v,k TO (by simp) _ hTO⟩,h1.at fun o q=>k i1 (by simp) o q,h2.at fun o q=>k i2 (by simp) o q⟩
 item:=by
  intro X hP hw hK i pins s σ H E I hf st hg
  subst hP hw hK
  obtain ⟨xs,ys,x,y,hqx,hqy,hx,hy⟩:=hg
  obtain ⟨itx,rx,px,_⟩:=I.tuple hqx
  obtain ⟨ity,ry,py,_⟩:=I.tuple hqy
  obtain ⟨u,hu,ru⟩:=rx.get hx
  obtain ⟨v,hv,rv⟩:=ry.get hy
  obtain ⟨hz,hTI,⟨c,d,hTO⟩,h1,h2⟩:=st
  refine L3.zeg D hz hTI hTO h1 h2 (show s.heap.IsTuple a itx.toArray from px) (show s.heap.IsTuple b ity.toArray from py) (x:=u) (y:=v) (by simpa using hu) (by simpa using hv) fun h' a1 a2 a3 a4 a5 a6 hk=> ?_
  refine ⟨_,rfl,wpAny_letOwnedTupleGo_zip a1 fun h2' b1 hs2=> ?_⟩
  have fresh:=I.hok.fresh (qaV s.heap.objs.size)
  have lt: ∀ {c o},s.heap.get? c=some o->c≠s.heap.objs.size:=fun e=>qaR (qaQ e)
  have lz:=lt hz
  have lTI:=lt hTI
  have lTO:=lt hTO
  have l1:i1≠s.heap.objs.size:=by obtain ⟨_,e,_⟩:=h1;exact lt e
  have l2:i2≠s.heap.objs.size:=by obtain ⟨_,e,_⟩:=h2;exact lt e
  have I1:Inv X pins σ (upd H s.heap.objs.size (.tup [x,y])) {s with heap:=s.heap.push {cls:= .type "tuple",data:= .seq #[u,v]},toks:=s.toks}:=
   I.laid (t':=s.toks) (fun b o q=>qag _ q) (qaV _) (show zbz X.prog X.w _ _ _ (.tup [x,y]) from ⟨by show 2<=sizeLine;decide,[u,v],.cons ru (.cons rv .nil),zi2.new _ _⟩)
  have fp: ∀ c∈[z,TI,TO,i1,i2],zfN X pins (upd H s.heap.objs.size (.tup [x,y])) c:=fun c hc=>by
   have hcn:c≠s.heap.objs.size:=by
    have q:c=z\/c=TI\/c=TO\/c=i1\/c=i2:=by simpa using hc
    rcases q with rfl | rfl | rfl | rfl | rfl<;>assumption
   exact ⟨by rw [zax hcn];exact (hf c hc).1,(hf c hc).2⟩
  have I2:Inv X pins σ (upd H s.heap.objs.size (.tup [x,y])) {s with heap:=h',toks:=s.toks}:=I1.turnedL (t':=s.toks) (h':=h') (fun b o hb q=>by
    rcases Heap.get?_push_cases q with ⟨z1,z2⟩ | q'
    · rw [z1,z2];exact a5
    · exact hk b o (fun e=>hb (by simp [e])) (fun e=>hb (by simp [e])) (fun e=>hb (by simp [e])) (fun e=>hb (by simp [e])) q') fp
  have I3:Inv X pins σ (upd H s.heap.objs.size (.tup [x,y])) {s with heap:=h2',toks:=s.toks}:=I2.turnedL (s:={s with heap:=h',toks:=s.toks}) (h':=h2') (t':=s.toks) (ch:=[z]) (fun b o hb q=>(hs2.2 b (fun e=>hb (by simp [e]))).trans q) (fun b hb=>fp b (by simp at hb;simp [hb]))
  refine ⟨.ref s.heap.objs.size,_,I3,rfl,⟨s.heap.objs.size,x,y,fresh,rfl,rfl,fun xs' hx'=>by rw [I.tuple_inj hx' hqx];exact hx,fun ys' hy'=>by rw [I.tuple_inj hy' hqy];exact hy⟩,
    ⟨b1,hs2.extBut _ _ D.TIz (hk _ _ D.TIz D.TITO D.TIi1 D.TIi2 hTI),⟨u,v,hs2.extBut _ _ D.TOz a2⟩,a3.extBut hs2.extBut D.i1z,a4.extBut hs2.extBut D.i2z⟩,fun c hc=>(fp c hc).1⟩
 done:=by
  intro X hP hw hK i pins s σ H E I hf st hg
  subst hP hw hK
  obtain ⟨xs,ys,hqx,hqy,hn⟩:=hg
  obtain ⟨itx,rx,px,_⟩:=I.tuple hqx
  obtain ⟨ity,ry,py,_⟩:=I.tuple hqy
  obtain ⟨hz,hTI,⟨c,d,hTO⟩,h1,h2⟩:=st
  have hnd:itx.toArray[i]? = none\/ity.toArray[i]? = none:=by
   have e1:=rx.length
   have e2:=ry.length
   rcases hn with q | q
   ·left;simp;omega
   ·right;simp;omega
  obtain ⟨o1,ho1,_,hd1⟩:=id h1
  obtain ⟨o2,ho2,_,hd2⟩:=id h2
  refine L3.zeT I.hand ⟨zce I.hand hz (fun vs e=>by cases e;simp),zce I.hand hTO (fun vs e=>by cases e),zce I.hand ho1 (fun vs e=>by rw [hd1] at e;cases e;simp),zce I.hand ho2 (fun vs e=>by rw [hd2] at e;cases e;simp)⟩ D hz hTI hTO h1 h2
   (show s.heap.IsTuple a itx.toArray from px) (show s.heap.IsTuple b ity.toArray from py) hnd fun h' hk=>⟨rfl,I.turnedL (t':=s.toks) (ch:=[z,TO,i1,i2]) (fun b o hb q=>hk b o (fun e=>hb (by simp [e])) (fun e=>hb (by simp [e])) (fun e=>hb (by simp [e])) (fun e=>hb (by simp [e])) q) fun b hb=>hf b (by simp at hb ⊢; rcases hb with e | e | e | e<;>simp [e])⟩
 self:=fun _ _ _ _ _ st h=>wpAny_pyIter_zip st.1 h
section
variable {X:Cx} {elts:List Expr} {k:Nat} {tpos:Pos}
noncomputable def ztz (K:W.Frag) (ta:TA):TI:=fun σ H R=>ta σ H fun vs H1=> ∃ a b,vs=[.ref a,.ref b]/\(∃ xs,SqT K H1 a xs)/\(∃ ys,SqT K H1 b ys)/\R (Itz K a b) H1
theorem zrd {l m:Expr} {ta:TA} {p pos:Pos} (hg:Gl X "zip") (hm:X.mg "zip"=none) (ha:PA X [l,m] ta) (hs1:starEach [l,m] X.env=(false,eval l X.env)::starEach [m] X.env:=by rfl) (hs2:starEach [m] X.env=[(false,eval m X.env)]:=by rfl):
  PI X (.Tuple elts k tpos) (.Call (.Name "zip" p) [l,m] [] pos) (ztz X.K ta):=by
 intro pins s σ H R I h
 refine Call_ (zd4 I hg hm PyProof.Rows.boot_zip (PyProof.Rows.callWith_type1 (thn (ha pos pins s σ H _ I h) fun us s1 ⟨vs,H1,I1,r1,q1⟩=> ?_) hs1 (by rw [hs2];rfl)))
 obtain ⟨a,b,e,⟨xs,hqx⟩,⟨ys,hqy⟩,q⟩:=q1
 subst e
 cases r1 with
 | cons r rr=>
  cases rr with
  | cons r' rr=>
  cases rr
  cases r
  cases r'
  obtain ⟨itx,rx,px,_⟩:=I1.tuple hqx
  obtain ⟨ity,ry,py,_⟩:=I1.tuple hqy
  have la:a<s1.heap.objs.size:=by obtain ⟨_,e,_⟩:=px;exact qaQ e
  have lb:b<s1.heap.objs.size:=by obtain ⟨_,e,_⟩:=py;exact qaQ e
  refine L3.zi0 (show s1.heap.IsTuple a itx.toArray from px) (show s1.heap.IsTuple b ity.toArray from py) fun h' hz hTI hTO h1 h2 hsz kp=> ?_
  refine wpAny_pyIter_zip hz ?_
  refine ⟨s1.heap.objs.size+4,[s1.heap.objs.size+4,s1.heap.objs.size+2,s1.heap.objs.size+3,s1.heap.objs.size,s1.heap.objs.size+1],_,_,H1,rfl,I1.kept (t':=s1.toks) kp,
    zlA _ _ _ _ _ a b (znp la lb),⟨hz,hTI,⟨_,_,hTO⟩,h1,h2⟩,fun c hc=> ?_,q⟩
  have q:s1.heap.objs.size<=c:=by
   have z:c=s1.heap.objs.size+4\/c=s1.heap.objs.size+2\/c=s1.heap.objs.size+3\/c=s1.heap.objs.size\/c=s1.heap.objs.size+1:=by simpa using hc
   rcases z with e | e | e | e | e<;>rw [e]
   ·exact Nat.le_add_right _ 4
   ·exact Nat.le_add_right _ 2
   ·exact Nat.le_add_right _ 3
   ·exact qaV _
   ·exact Nat.le_add_right _ 1
  exact I1.fpOk q (I1.hok.fresh q)
end
end L2
namespace L3
open PySem PySem.Spec PyProof.Rows L2
section
variable {X:Cx} {E:XE} {elts:List Expr} {k:Nat} {tpos pos:Pos}
noncomputable def zf5 (ds es:List D):List D:=(ds.zip es).map fun p=> .tup [p.1,p.2]
theorem zlB {K:W.Frag} {ι:Io} {H:Hp} {a b:Addr} {vs us:List V} {ds es:List D} (h: ∀ ι' H',Pass ι H ι' H'->SqT K H' a vs) (g: ∀ ι' H',Pass ι H ι' H'->SqT K H' b us) (rl:zas K ι H ds vs) (rm:zas K ι H es us):zlh K ι H (Itz K a b) (zf5 ds es) where
 go:=fun ι' H' i s hi=>by
  have hi:i<ds.length/\i<es.length:=by simp [zf5] at hi;omega
  obtain ⟨v,ev,_⟩:=zas.get rl (i:=i) (d:=ds[i]) (by simp [hi])
  obtain ⟨u,eu,_⟩:=zas.get rm (i:=i) (d:=es[i]) (by simp [hi])
  exact ⟨vs,us,v,u,h ι' H' s,g ι' H' s,ev,eu⟩
 yld:=fun ι' H' _ i x H2 s hr hi ⟨T,y,y2,hT,e,e2,hy,hy2⟩=>by
  subst e e2
  have hi:i<ds.length/\i<es.length:=by simp [zf5] at hi;omega
  obtain ⟨v,ev,rv⟩:=zas.get rl (i:=i) (d:=ds[i]) (by simp [hi])
  obtain ⟨u,eu,ru⟩:=zas.get rm (i:=i) (d:=es[i]) (by simp [hi])
  have ey:=hy vs (h ι' H' s)
  rw [ev] at ey
  cases ey
  have ez:=hy2 us (g ι' H' s)
  rw [eu] at ez
  cases ez
  refine ⟨.inr ⟨T,_,hT,rfl⟩,.tup [ds[i],es[i]],by simp [zf5,List.getElem?_zip_eq_some,hi],?_⟩
  obtain ⟨st,hr2⟩:=zpm.step (.inr ⟨T,[y,y2],hT,rfl⟩) hr
  have rv2:Rel K ι' (upd H' T (.tup [y,y2])) ds[i] y:=(rv.pass s).step st
  have ru2:Rel K ι' (upd H' T (.tup [y,y2])) es[i] y2:=(ru.pass s).step st
  simp only [Rel]
  exact ⟨T,_,rfl,⟨zaH,hr.nin hT⟩,zas.cons rv2 (zas.cons ru2 zas.nil)⟩
 stop:=fun ι' H' s=>⟨vs,us,h ι' H' s,g ι' H' s,by rw [<- rl.length, <-rm.length];simp [zf5];omega⟩
noncomputable def zsy:List D->M (List D)
 | [.tup ds,.tup es]=>pure (zf5 ds es)
 | _=>M.bad
noncomputable def znO (fs:FA):FA:=fun sd=>do let ds<-fs sd;zsy ds
theorem zrR {l m:Expr} {fs:FA} {p:Pos} (hm:X.mg "zip"=none) (ha:SA X E [l,m] fs) (hg:Gl X "zip":=by rfl) (hs1:starEach [l,m] X.env=(false,eval l X.env)::starEach [m] X.env:=by rfl) (hs2:starEach [m] X.env=[(false,eval m X.env)]:=by rfl):
  SI X E (.Tuple elts k tpos) (.Call (.Name "zip" p) [l,m] [] pos) (znO fs):=by
 refine PI.imp (zrd hg hm ha hs1 hs2) fun σ H Q ⟨ι,h,sd,L,hh,q⟩=>⟨ι,h,sd,L,hh,Fin.bind q fun ds h1 ι1 H1 e1 s1 hr1 q1 vs rv=> ?_⟩
 unfold zsy at q1
 split at q1
 ·rename_i ds es
  unfold zas at rv
  obtain ⟨v,r,e1,r1,rv⟩:=rv
  unfold zas at rv
  obtain ⟨v',r',e2,r2,rv⟩:=rv
  unfold zas at rv
  subst rv e2 e1
  obtain ⟨a,vs,e,g1,g2⟩:=zfF r1
  obtain ⟨b,us,e',g3,g4⟩:=zfF r2
  exact ⟨a,b,by rw [e,e'],⟨vs,g1 _ _ (Pass.refl _ _)⟩,⟨us,g3 _ _ (Pass.refl _ _)⟩,Fin.out hr1 q1 _ (zlB g1 g3 g2 g4)⟩
 ·exact qa0 q1
end
end L3
namespace L2
open PySem PySem.Spec PyProof.Rows
section
variable {X:Cx}
end
end L2
namespace L3
open PySem PySem.Spec PyProof.Rows L2
section
variable {X:L2.Cx} {E:XE}
end
end L3
namespace L3
open PySem
open Sem (wp)
section
variable {prog:Program} {w:World} {A:Around} {E:Value->Shared->Prop} {s:Shared}
theorem zgZ {l:Addr} {xs:Array Value} {k:Nat} {Q:Option Value->Shared->Prop} (hA:A.handled=none) (hx:s.heap.get? l=some {cls:= .type "list",data:= .seq xs k})
  (h: ∀ h' tk,(∀ b o,s.heap.get? b=some o->h'.get? b=some o)->Q none {s with heap:=h',toks:=tk}):wpAny (model prog w) A (getAttr? (.ref l) "keys") Q E s:=by
 obtain ⟨hp,g,d,tk,os⟩:=s
 have hT: ∀ tk',(⟨hp,g,d,tk',os⟩:Shared).TypeIs (.ref l) "list":=fun _=>⟨_,hx,rfl⟩
 have f1:=sub_AttributeError
 have f3:=F.slot_list_getattribute.lookup
 have f4:=F.slot_list_getattribute.bind (.ref l)
 have f5:=am_list_getattr_none
 have hmiss:typeLookup (.type "list") "keys"=pure none:=by rw [typeLookup_type,builtinLookup_eq_fast];kernel_rfl
 unfold getAttr? getAttrBy? getAttrBy
 repeat (any_goals (first | assumption | exact hT _ | ((with_reducible show wpAny _ _ (call (Value.builtin "list.__getattribute__") _ _) _ _ _);refine call_meets F.slot_list_getattribute (hT _) am_entry_list_getattribute (F.args_list_getattribute_2 _ _) (meets_getattribute_miss_list l xs k #[] "keys" _ hmiss (by decide +kernel) (by size_fits)) ⟨hx,hA,fun h' tk' e hx'=> ?_⟩) | wp_step))
 obtain ⟨t',u',he⟩:=hx'.there
 show wpAny _ _ (getattributeRaised _ _ _ _ _ _ _) _ _ _
 unfold getattributeRaised
 repeat (any_goals (first | assumption | wp_step))
 exact h _ _ hx'.keeps
theorem zgn:entryFor table "dict.update.loop"=some Builtin.«dict.update.loop» := entryFor_of_tree (by kernel_rfl)
theorem zdC:plainId "dict.update.loop"=true:=by decide +kernel
def zpJ (prog:Program) (w:World) (A:Around) (d:Addr) (h0:Heap) (St:Nat->Heap->Prop) (i:Nat) (x:Value):Prop:=
 ∃ p k v n dd sl,x= .ref p/\h0.get? p=some {cls:= .type "tuple",dict:=dd,data:= .seq #[k,v] n,slots:=sl}/\
  ∀ (s:Shared) (Q:Unit->Shared->Prop) (E:Value->Shared->Prop),St i s.heap->(∀ b o,h0.get? b=some o->s.heap.get? b=some o)->(∀ h' tk,St (i+1) h'->Heap.SameBut d s.heap h'->Q () {s with heap:=h',toks:=tk})->wpAny (model prog w) A (dictSet d k v) Q E s
theorem zlR {d it l:Addr} {items:Array Value} {h0:Heap} {St:Nat->Heap->Prop} {R:Result->Shared->Prop} (hh:A.handled=none) (hl:h0.IsList l items) (h0d: ∀ b o,h0.get? b=some o->b≠d/\b≠it) (hdi:d≠it)
  (fr: ∀ i h h',St i h->(∀ b o,b≠it->h.get? b=some o->h'.get? b=some o)->St i h') (pr: ∀ i x,items[i]? = some x->zpJ prog w A.in1 d h0 St i x):
  ∀ (k i:Nat) (s:Shared),items.size - i=k->i<=items.size->St i s.heap->s.heap.IsListIter it l i->(∀ b o,h0.get? b=some o->s.heap.get? b=some o)->
  (∀ h' tk,St items.size h'->(∀ b o,b≠d->b≠it->s.heap.get? b=some o->h'.get? b=some o)->R (.ok (.ret .none)) {s with heap:=h',toks:=tk})->
  codeAny (model prog w) A (.builtin "dict.update.loop" ⟨[.ref d,.ref it,rawInt i,.none],[]⟩) R s:=by
 intro k
 induction k with
 | zero=>
  intro i s hk hi hst hit hx hR
  have hin:i=items.size:=by omega
  have hls:s.heap.IsList l items:=by obtain ⟨o,e,r⟩:=hl;exact ⟨o,hx _ _ e,r⟩
  refine codeAny_builtin zgn ?_
  rw [qap zdC _]
  show wpAny _ A.in1 (pyNext (.ref it)>>=_) _ _ s
  refine qaW (wpAny_pyNext_list_end (A:=A.in1) hh hit hls (by rw [hin];simp) fun h' hx'=> ?_)
  show wpAny _ _ (Builtin.Dict.addKeywords d []>>=_) _ _ _
  refine qaW (qaX (qaX ?_))
  exact hR h' _ (fr _ _ _ (hin▸hst) fun b o hb e=>hx' b o hb e) fun b o _ hb e=>hx' b o hb e
 | succ k ih=>
  intro i s hk hi hst hit hx hR
  have hlt:i<items.size:=by omega
  have hls:s.heap.IsList l items:=by obtain ⟨o,e,r⟩:=hl;exact ⟨o,hx _ _ e,r⟩
  obtain ⟨p,key,v,n,dd,sl,ex,ep,put⟩:=pr i items[i] (by simp [hlt])
  refine codeAny_builtin zgn ?_
  rw [qap zdC _]
  show wpAny _ A.in1 (pyNext (.ref it)>>=_) _ _ s
  refine qaW (wpAny_pyNext_list_item hit hls (x:= .ref p) (by rw [<- ex];simp [hlt]) fun h1 hit1 hs1=> ?_)
  have hx1: ∀ b o,h0.get? b=some o->h1.get? b=some o:=fun b o e=>hs1.extBut _ _ (h0d b o e).2 (hx b o e)
  have hp1:=hx1 _ _ ep
  refine qaW (qaO (qaW (wpAny_tryCatch ?_)))
  unfold Builtin.Dict.pairItems
  refine qaW (wpAny_typeOf (T:="tuple") ⟨_,hp1,rfl⟩ ?_)
  simp only [beq_self_eq_true,Bool.or_true,if_true]
  refine qaW (wpAny_seqItems hp1 rfl (qaX ?_))
  show wpAny _ _ (holding [key,v] (dictSet d key v)) _ _ _
  refine qaO (put _ _ _ (fr _ _ _ hst fun b o hb e=>hs1.extBut _ _ hb e) hx1 fun h2 tk hst2 hs2=> ?_)
  refine qaX ⟨plainId_quiet zdC _,?_⟩
  show codeAny _ A (.builtin "dict.update.loop" ⟨[.ref d,.ref it,rawInt ((i:Int)+1),.none],[]⟩) _ _
  rw [show ((i:Int)+1)=((i+1:Nat):Int) by omega]
  refine ih (i+1) _ (by omega) hlt hst2 (hit1.extBut hs2.extBut (Ne.symm hdi)) (fun b o e=>hs2.extBut _ _ (h0d b o e).1 (hx1 b o e)) fun h3 tk3 hst3 hk3=> ?_
  exact hR h3 tk3 hst3 fun b o hbd hbi e=>hk3 b o hbd hbi (hs2.extBut _ _ hbd (hs1.extBut _ _ hbi e))
theorem zjJ {l:Addr} {items:Array Value} {k:Nat} {St:Nat->Heap->Prop} {Q:Value->Shared->Prop} (hA:A.handled=none) (hx:s.heap.get? l=some {cls:= .type "list",data:= .seq items k})
  (st0:St 0 (s.heap.push {cls:= .type "dict",data:= .dict #[]}))
  (fr: ∀ i h h',St i h->(∀ b o,(b=s.heap.objs.size\/ ∃ o',s.heap.get? b=some o')->h.get? b=some o->h'.get? b=some o)->St i h')
  (pr: ∀ i x,items[i]? = some x->zpJ prog w A.in1.in1 s.heap.objs.size s.heap St i x)
  (h: ∀ h' tk,St items.size h'->(∀ b o,s.heap.get? b=some o->h'.get? b=some o)->Q (.ref s.heap.objs.size) {s with heap:=h',toks:=tk}):
  wpAny (model prog w) A (call (.type "dict") [.ref l]) Q E s:=by
 refine callType_codes (Q₁:=fun obj s₁=>obj= .ref s.heap.objs.size/\s₁={s with heap:=s.heap.push {cls:= .type "dict",data:= .dict #[]}}) F.kt_called_dict (F.kt_typeCall_dict_1 _) F.entry_dict_init (kt_code_dict_new _ ⟨rfl,rfl⟩) ?_
 rintro obj s₁ ⟨rfl,rfl⟩
 have hd:(s.heap.push {cls:= .type "dict",data:= .dict #[]}).get? s.heap.objs.size=some {cls:= .type "dict",data:= .dict #[]}:=qar _ rfl
 have hx1:(s.heap.push {cls:= .type "dict",data:= .dict #[]}).get? l=some {cls:= .type "list",data:= .seq items k}:=qag _ hx
 refine ⟨⟨_,hd,rfl⟩,F.args_dict_init_2 _ _,?_⟩
 unfold Builtin.«dict.__init__»
 refine qaW ?_
 unfold Builtin.Dict.selfAndRest
 refine qaW (wpAny_notOrdered_dict ⟨_,hd,rfl⟩ ?_)
 show wpAny _ _ (pure (s.heap.objs.size,[Value.ref l])) _ _ _
 refine qaX ?_
 show wpAny _ _ (Builtin.Dict.updateFrom "dict.__init__" s.heap.objs.size (.ref l) [] .none) _ _ _
 unfold Builtin.Dict.updateFrom
 refine qaW (wpAny_typeOf (T:="list") ⟨_,hx1,rfl⟩ ?_)
 rw [qa4 (by decide)]
 refine qaW (zgZ (A:=A.in1.in1) hA hx1 fun h1 tk hk1=> ?_)
 simp only [Option.isNone_none,if_true]
 refine qaW (wpAny_rule ?_)
 have hl1:h1.IsList l items:=⟨_,hk1 _ _ hx1,rfl,k,rfl⟩
 refine qaW (wpAny_pyIter_list (s:={s with heap:=h1,toks:=tk}) hl1 ?_)
 refine qaX ⟨plainId_quiet zdC _,?_⟩
 have hlt:s.heap.objs.size<h1.objs.size:=qaQ (hk1 _ _ hd)
 have old: ∀ b o,s.heap.get? b=some o->h1.get? b=some o:=fun b o e=>hk1 _ _ (qag _ e)
 have hne: ∀ b o,s.heap.get? b=some o->b≠s.heap.objs.size/\b≠h1.objs.size:=fun b o e=>⟨qaR (qaQ e),qaR (qaQ (old b o e))⟩
 refine zlR (A:=A.in1) (d:=s.heap.objs.size) (it:=h1.objs.size) (l:=l) (items:=items) (h0:=s.heap) (St:=St) hA ⟨_,hx,rfl,k,rfl⟩ hne (qaR hlt) (fun i h h' hst hk=>fr i h h' hst fun b o hb e=> ?_) pr _ 0 _ rfl (Nat.zero_le _)
  (fr 0 _ _ st0 fun b o _ e=>qag _ (hk1 _ _ e)) ⟨_,qar _ rfl,rfl,rfl⟩ (fun b o e=>qag _ (old b o e)) fun h2 tk2 hst2 hk2=> ?_
 ·refine hk b o ?_ e
  rcases hb with rfl | ⟨o',e'⟩
  ·exact qaR hlt
  ·exact (hne b o' e').2
 ·exact ⟨rfl,h h2 tk2 hst2 fun b o e=>hk2 b o (hne b o e).1 (hne b o e).2 (qag _ (old b o e))⟩
end
end L3
namespace L2
open PySem PySem.Spec PyProof.Rows
section
variable {X:Cx}
theorem Inv.sysI {pins:List (Addr×Obj)} {σ:St} {H:Hp} {s:Shared} (I:Inv X pins σ H s):sysModules<s.heap.objs.size:=by
 have h:mainGlobals<s.heap.objs.size:=(I.mod.glob.keeps I.bk).lt
 exact Nat.lt_trans (by decide) h
noncomputable def zd1 (zs:List (Int×V)):List (Key×V):=zs.foldl (fun kvs z=>zkU kvs (.inl z.1) z.2) []
theorem zhh (zs:List (Int×V)) (z:Int×V):zd1 (zs++[z])=zkU (zd1 zs) (.inl z.1) z.2:=by
 unfold zd1
 rw [List.foldl_append]
 rfl
theorem zfd (zs:List (Int×V)):(zd1 zs).length<=zs.length:=by
 have key: ∀ (zs:List (Int×V)) (kvs:List (Key×V)),(zs.foldl (fun kvs z=>zkU kvs (.inl z.1) z.2) kvs).length<=kvs.length+zs.length:=by
  intro zs
  induction zs with
  | nil=>intro kvs;exact qaV _
  | cons z zs ih=>
   intro kvs
   have h1:=ih (zkU kvs (.inl z.1) z.2)
   have h2:=zho kvs (.inl z.1) z.2
   rw [List.foldl_cons,qaE]
   omega
 have:=key zs []
 rw [qaJ,Nat.zero_add] at this
 exact this
theorem zld (hc:X.calm=true):zaZ X (.type "dict") (fun xs H Q=> ∃ (a:Addr) (zs:List (Addr×Int×V)),xs=[V.ref a]/\H a=some (.lst (zs.map fun z=>V.ref z.1))/\
    (∀ z∈zs,H z.1=some (.tup [.int z.2.1,z.2.2]))/\ ∀ p,H p=none->Q (.ref p) (upd H p (.dK (zd1 (zs.map (·.2)))))):=by
 intro pins s σ H xs us Q I r h
 obtain ⟨a,zs,rfl,hH,hz,q⟩:=h
 obtain ⟨u,rfl,ru⟩:=zef r
 cases ru
 obtain ⟨zl,its,n,rv,hl,e⟩:=I.lstM hH
 have hlen:zs.length=its.length:=by rw [<- hl,qaH]
 have zl:zs.length<=sizeLine:=by rw [qaH] at zl;exact zl
 refine L3.zjJ (A:=X.A) (s:=s) (l:=a) (items:=its.toArray) (k:=n) (St:=fun i h=> ∃ vs,KV (zd1 ((zs.take i).map (·.2))) vs/\h.DictOf (zdY X.prog X.w) s.heap.objs.size vs) (I.ok.hd hc) e ?_ ?_ ?_ ?_
 ·exact ⟨[],.nil,Heap.DictOf.new _⟩
 ·rintro i h h' ⟨vs,kv,o,es,ep,h1,r⟩ hk
  exact ⟨vs,kv,o,es,ep,hk _ o (.inl rfl) h1,r⟩
 ·intro i x hx
  have hi:i<zs.length:=by
   have:i<its.toArray.size:=(qab.mp hx).1
   rw [qaA] at this
   omega
  have hmem:zs[i]∈zs:=List.getElem_mem hi
  obtain ⟨u,hu1,ru1⟩:=rv.get (i:=i) (x:= .ref zs[i].1) (by simp [hi])
  have hxu:x=u:=by
   have:its[i]? = some x:=by simpa using hx
   rw [hu1] at this
   exact (Option.some.inj this).symm
  have hxr:x= .ref zs[i].1:=by rw [hxu];exact ru1
  obtain ⟨_,its2,r2,⟨cc,dd,dt,sl⟩,o1,o2,m,o3,o4⟩:=(show zbz X.prog X.w H s.heap zs[i].1 (.tup [.int zs[i].2.1,zs[i].2.2]) from I.hok _ _ (hz _ hmem))
  dsimp only at o2 o3
  subst o2 o3
  obtain ⟨u1,u2,rfl,k1,k2⟩:=r2.two
  refine ⟨zs[i].1,u1,u2,m,dd,sl,hxr,o1,fun s' Q' E' hst hold k=> ?_⟩
  obtain ⟨vs,kv,dd'⟩:=hst
  have hz':vs.length<=sizeLine:=by
   rw [<- kv.length]
   have:=zfd ((zs.take i).map (·.2))
   rw [qaH,List.length_take] at this
   omega
  refine wpAny_dictSet_pairs (hsz:=hz') (zqY (k:= .inl zs[i].2.1) k1) dd' fun h' d2 sb=>k h' _ ⟨_,?_,d2⟩ sb
  rw [List.take_succ,qaf hi,Option.toList_some,List.map_append,List.map_singleton,zhh]
  exact kv.put (.inl zs[i].2.1) k2
 ·rintro h' tk ⟨vs,kv,dd⟩ hk
  rw [show its.toArray.size=zs.length by simp;omega,List.take_length] at kv
  have fresh:=I.hok.fresh (qaV s.heap.objs.size)
  refine ⟨.ref s.heap.objs.size,_,I.laid (t':=tk) (h':=h') (a:=s.heap.objs.size) (o:= .dK (zd1 (zs.map (·.2)))) hk (qaV _) ?_,rfl,q _ fresh⟩
  refine ⟨?_,by simpa using Nat.ne_of_gt I.sysI,vs,kv,dd⟩
  have:=zfd (zs.map (·.2))
  rw [qaH] at this
  omega
noncomputable def vAt (kvs:List (Key×V)) (k:Key):Option V:=(kvs.find? fun kv=>decide (kv.1=k)).map (·.2)
theorem zoO {kvs:List (Key×V)} {vs:List (Key×Value)} (r:KV kvs vs) (k:Key) {y:V} {u:Value} (ry:zby y u):zby ((vAt kvs k).getD y) ((valueAt vs k).getD u):=by
 unfold vAt valueAt
 unfold KV at r
 induction r with
 | nil=>exact ry
 | @cons p q ps qs h t ih=>
  rw [List.find?_cons,List.find?_cons, <-h.1]
  by_cases e:p.1=k
  ·rw [decide_eq_true e];exact h.2
  ·rw [decide_eq_false e];exact ih
theorem zqy:MtR X "dict.get" (fun x vs H Q=> ∃ a kvs k y,x= .ref a/\vs=[kV k,y]/\H a=some (.dK kvs)/\Q ((vAt kvs k).getD y) H):=by
 intro pins s σ H x vs v us Q I rx rv h
 obtain ⟨a,kvs,k,y,rfl,rfl,hH,q⟩:=h
 cases rx
 obtain ⟨u1,u2,rfl,k1,k2⟩:=rv.two
 obtain ⟨z,hd,vs,rel,dd⟩:=(show zbz X.prog X.w H s.heap a (.dK kvs) from I.hok a _ hH)
 refine call_meetsIn F.slot_dict_get dd.typeIs F.entry_dict_get (F.args_dict_get_3 _ _ _) (meets_dict_get_default _ a (zqY k1) hd _) ⟨_,dd.mapOf,?_⟩
 exact ⟨_,H,I.tok _,zoO rel k k2,q⟩
end
end L2
namespace L3
open PySem PySem.Spec PyProof.Rows L2
section
variable {X:L2.Cx} {E:XE}
noncomputable def zin (kvs:List (Int×D)):M D:=fun h=> .ok (.cel h.length) (h++[.dic kvs])
noncomputable def pr1:D->Option (Int×D)
 | .tup [.int k,d]=>some (k,d)
 | _=>none
noncomputable def prs:List D->Option (List (Int×D))
 | []=>some []
 | d::r=>(pr1 d).bind fun p=>(prs r).map (p:: ·)
noncomputable def zgt (ps:List (Int×D)):List (Int×D):=ps.foldl (fun kvs p=>zpD kvs p.1 p.2) []
noncomputable def zn8:List D->M D:=zm4 fun d=>match d with
 | .lst ds=>do
  let ps<-ofO (prs ds)
  zin (zgt ps)
 | _=>M.bad
theorem znA {d:D} {p:Int×D} (e:pr1 d=some p):d= .tup [.int p.1,p.2]:=by
 unfold pr1 at e
 split at e
 ·cases e;rfl
 ·cases e
theorem zny {K:W.Frag} {ι:Io} {H:Hp}: ∀ {ds:List D} {vs:List V} {ps:List (Int×D)},zas K ι H ds vs->prs ds=some ps->
  ∃ zs:List (Addr×Int×V),vs=zs.map (fun z=>V.ref z.1)/\(∀ z∈zs,H z.1=some (.tup [.int z.2.1,z.2.2]))/\Paired (fun (p:Int×D) (z:Addr×Int×V)=>z.2.1=p.1/\Rel K ι H p.2 z.2.2) ps zs
 | [],vs,ps,h,e=>by
  simp only [zas] at h
  subst h
  cases e
  exact ⟨[],rfl,(fun z hz=>nomatch hz),.nil⟩
 | d::r,vs,ps,h,e=>by
  simp only [zas] at h
  obtain ⟨v,r',rfl,h1,h2⟩:=h
  unfold prs at e
  cases z:pr1 d with
  | none=>rw [z] at e;cases e
  | some p=>
   rw [z] at e
   cases z2:prs r with
   | none=>rw [z2] at e;cases e
   | some ps'=>
    rw [z2] at e
    cases e
    obtain ⟨zs,g1,g2,g3⟩:=zny h2 z2
    have ed:=znA z
    subst ed
    simp only [Rel] at h1
    obtain ⟨a,us,rfl,ha,ru⟩:=h1
    simp only [zas,Rel] at ru
    obtain ⟨u1,t1,rfl,ru1,u2,t2,rfl,ru2,rfl⟩:=ru
    subst ru1
    refine ⟨(a,p.1,u2)::zs,by rw [qaM,g1],fun y hy=> ?_,.cons ⟨rfl,ru2⟩ g3⟩
    rcases qaP.mp hy with rfl | hy
    ·exact ha.1
    ·exact g2 y hy
theorem zmE {K:W.Frag} {ι:Io} {H:Hp} {ps:List (Int×D)} {zs:List (Addr×Int×V)} (r:Paired (fun (p:Int×D) (z:Addr×Int×V)=>z.2.1=p.1/\Rel K ι H p.2 z.2.2) ps zs):
  Paired (fun (p:Int×D) (q:Key×V)=>q.1= .inl p.1/\Rel K ι H p.2 q.2) (zgt ps) (zd1 (zs.map (·.2))):=by
 have key: ∀ {ps:List (Int×D)} {zs:List (Addr×Int×V)},Paired (fun (p:Int×D) (z:Addr×Int×V)=>z.2.1=p.1/\Rel K ι H p.2 z.2.2) ps zs-> ∀ {kvs:List (Int×D)} {vs:List (Key×V)},Paired (fun (p:Int×D) (q:Key×V)=>q.1= .inl p.1/\Rel K ι H p.2 q.2) kvs vs->
   Paired (fun (p:Int×D) (q:Key×V)=>q.1= .inl p.1/\Rel K ι H p.2 q.2) (ps.foldl (fun kvs p=>zpD kvs p.1 p.2) kvs) ((zs.map (·.2)).foldl (fun kvs z=>zkU kvs (.inl z.1) z.2) vs):=by
  intro ps zs r
  induction r with
  | nil=>intro kvs vs h;exact h
  | @cons p z ps zs hh t ih=>
   intro kvs vs h
   rw [List.foldl_cons,qaM,List.foldl_cons,hh.1]
   exact ih (znP h hh.2)
 exact key r .nil
theorem ziF (hc:X.calm=true):zaZ X (.type "dict") (zhU X.K E zn8):=by
 refine zaZ.imp (zld hc) fun xs H Q ⟨ι,h,ds,rl,hr,q⟩=> ?_
 obtain ⟨d,v,e,r,q⟩:=zc1 rl q
 cases d with
 | lst ds=>
  obtain ⟨ps,ek,q⟩:=Fin.ofOb q
  simp only [Rel] at r
  obtain ⟨a,vs,rfl,ha,r2⟩:=r
  obtain ⟨zs,g1,g2,g3⟩:=zny r2 ek
  refine ⟨a,zs,by rw [e],by rw [<- g1];exact ha.1,g2,fun p hp=> ?_⟩
  exact zqh (E:=E) hr (c0:= .dic (zgt ps)) ⟨_,rfl,zmE g3⟩ q hp
 | _=>exact qa0 q
noncomputable def atK (kvs:List (Int×D)) (k:Int):Option D:=(kvs.find? fun p=>decide (p.1=k)).map (·.2)
theorem zk8 {K:W.Frag} {ι:Io} {H:Hp} {kvs:List (Int×D)} {vs:List (Key×V)} (r:Paired (fun (p:Int×D) (q:Key×V)=>q.1= .inl p.1/\Rel K ι H p.2 q.2) kvs vs) (k:Int) {d:D} {v:V} (rd:Rel K ι H d v):
  Rel K ι H ((atK kvs k).getD d) ((vAt vs (.inl k)).getD v):=by
 unfold atK vAt
 induction r with
 | nil=>exact rd
 | @cons p q ps qs h t ih=>
  rw [List.find?_cons,List.find?_cons,h.1]
  by_cases e:p.1=k
  ·rw [decide_eq_true e,decide_eq_true (by rw [e])];exact h.2
  ·rw [decide_eq_false e,decide_eq_false (fun z=>e (by injection z))];exact ih
noncomputable def zhv (x:D) (ys:List D):M D:=match x,ys with
 | .cel n,[.int k,d]=>do
  let kvs<-zcx n
  pure ((atK kvs k).getD d)
 | _,_=>M.bad
noncomputable def zfG:D->M Unit
 | .cel n=>do let _<-zcx n;pure ()
 | _=>M.bad
noncomputable def zo5 (fo:FE) (fs:FA):FE:=fun sd=>do
 let x<-fo sd
 zfG x
 let ys<-fs sd
 zhv x ys
theorem zit {K:W.Frag} {ι:Io} {H:Hp} {h:Hh} (hr:zbb K ι H h) {n:Nat} {v:V} {α:Type} {f:List (Int×D)->M α} {P:α->Io->Hp->Prop} (r:Rel K ι H (.cel n) v) (q:Fin K E ι H ((zcx n>>=f) h) P):
  ∃ a kvs vs,v= .ref a/\H a=some (.dK vs)/\Paired (fun (p:Int×D) (q:Key×V)=>q.1= .inl p.1/\Rel K ι H p.2 q.2) kvs vs/\Fin K E ι H (f kvs h) P:=by
 simp only [Rel] at r
 obtain ⟨a,rfl,hn⟩:=r
 have q4:Fin K E ι H (M.bind (zcx n) f h) P:=q
 unfold M.bind zcx at q4
 rcases hn with hn | hn
 ·have hl:=hr.len
  have hlt:=(qac.mp hn).1
  obtain ⟨c,hc⟩: ∃ c,h[n]? = some c:=⟨h[n],by simp [hl,hlt]⟩
  rw [hc] at q4
  obtain ⟨ob,e3,co⟩:=hr.at_ n a c hn hc
  cases c with
  | dic kvs=>
   obtain ⟨vs,rfl,rp⟩:=co
   exact ⟨a,kvs,vs,rfl,e3,rp,q4⟩
  | _=>exact qa0 q4
 ·rw [hr.dead n hn] at q4
  exact qa0 q4
variable {o e1 e2:Expr} {cpos apos:Pos} {fo:FE} {fs:FA}
theorem zrX (ho:SE X E o fo) (ha:SA X E [e1,e2] fs)
  (hbase:attributeBase o "get" X.env (eval o X.env)=eval o X.env:=by rfl)
  (hfew:((backTo cpos (starEach [e1,e2] X.env)).all (fun x=> !x.1) && (backToKw cpos (keywordEach [] X.env)).all (fun x=>x.1.isSome)
    && decide (([e1,e2]:List Expr).length+([]:List Keyword).length+(if ([]:List Keyword).isEmpty then 0 else 1)<30))=true:=by rfl)
  (hline:(apos.endLine==cpos.line)=true:=by rfl) (hs:starEach [e1,e2] X.env=(false,eval e1 X.env)::starEach [e2] X.env:=by rfl) (hplain:(backTo cpos (starEach [e2] X.env)).any (·.1)=false:=by rfl):
  SE X E (.Call (.Attribute o "get" apos) [e1,e2] [] cpos) (zo5 fo fs):=by
 refine PE.imp (zlQ PySem.F.plainAttrs_dict PySem.F.slot_dict_get PySem.F.type_dict_get zqy ho ha hbase hfew hline hs hplain) fun σ H Q ⟨ι,h,sd,L,hh,q⟩=>⟨ι,h,sd,L,hh,Fin.bind q fun d h1 ι1 H1 e1 s1 hr1 q1 v rv=> ?_⟩
 cases d with
 | cel n=>
  have q2:Fin X.K E ι1 H1 ((zcx n>>=fun _=>fs sd>>=fun ys=>zhv (.cel n) ys) h1) (fun d ι' H'=> ∀ v,Rel X.K ι' H' d v->Q v H'):=by
   have ee:(zfG (.cel n)>>=fun _=>fs sd>>=fun ys=>zhv (.cel n) ys:M D)=(zcx n>>=fun _=>fs sd>>=fun ys=>zhv (.cel n) ys):=by
    show ((zcx n>>=fun _=>pure ())>>=fun _=>fs sd>>=fun ys=>zhv (.cel n) ys)=_
    simp only [bind_assoc,pure_bind]
   rw [<- ee]
   exact q1
  obtain ⟨a,kvs,vs,ev,hH,_,q3⟩:=zit hr1 rv q2
  subst ev
  refine ⟨.inr (.inr (.inl ⟨rfl,.inl ⟨vs,hH⟩⟩)),ι1,h1,sd,L.step s1,hr1,Fin.bind q3 fun ys h3 ι3 H3 e3 s3 hr3 q4 ws rw'=> ?_⟩
  have rv3:=rv.step s3
  match ys,rw',q4 with
  | [.int k,d],rw',q4=>
   have q4':Fin X.K E ι3 H3 ((zcx n>>=fun kvs=>(pure ((atK kvs k).getD d):M D)) h3) (fun d ι' H'=> ∀ v,Rel X.K ι' H' d v->Q v H'):=q4
   obtain ⟨a3,kvs3,vs3,ea,hH3,rp3,q5⟩:=zit hr3 rv3 q4'
   cases ea
   simp only [zas,Rel] at rw'
   obtain ⟨w1,t1,rfl,rfl,w2,t2,rfl,rw2,rfl⟩:=rw'
   exact ⟨a,vs3,.inl k,w2,rfl,rfl,hH3,Fin.out hr3 q5 _ (zk8 rp3 k rw2)⟩
  | [],_,q4=>exact qa0 q4
  | [y],_,q4=>cases y<;>exact qa0 q4
  | y::_::_::_,_,q4=>cases y<;>exact qa0 q4
  | [.non,_],_,q4=>exact qa0 q4
  | [.bl _,_],_,q4=>exact qa0 q4
  | [.str _,_],_,q4=>exact qa0 q4
  | [.tup _,_],_,q4=>exact qa0 q4
  | [.lst _,_],_,q4=>exact qa0 q4
  | [.cel _,_],_,q4=>exact qa0 q4
  | [.set _,_],_,q4=>exact qa0 q4
  | [.dct,_],_,q4=>exact qa0 q4
  | [.fn _,_],_,q4=>exact qa0 q4
  | [.scr _,_],_,q4=>exact qa0 q4
  | [.exn _,_],_,q4=>exact qa0 q4
 | _=>exact qa0 q1
end
end L3
namespace L3
open PySem
open Sem (wp)
section
variable {prog:Program} {w:World} {A:Around} {E:Value->Shared->Prop} {s:Shared}
theorem zfv {z TI TO i1 i2 l1 l2:Addr} {k1 k2:Nat} {xs ys:Array Value} {a b:Value} {Q:PySem.Fin->Shared->Prop} (hh:zf9 A s.heap) (hf:z∉zaz A/\TO∉zaz A/\i1∉zaz A/\i2∉zaz A) (D:ZipApart z TI TO i1 i2 l1 l2)
  (hz:IsZip s.heap z TI TO .none) (hTI:IsPair s.heap TI (.ref i1) (.ref i2)) (hTO:IsPair s.heap TO a b)
  (h1:s.heap.IsListIter i1 l1 k1) (h2:s.heap.IsListIter i2 l2 k2) (hl1:s.heap.IsList l1 xs) (hl2:s.heap.IsList l2 ys) (hend:xs[k1]? = none\/ys[k2]? = none)
  (hE: ∀ h' e,(∀ c o,c≠z->c≠TO->c≠i1->c≠i2->s.heap.get? c=some o->h'.get? c=some o)->(∃ o,h'.get? e=some o/\o.cls= .type "StopIteration")->E (.ref e) {s with heap:=h'}):
  wpAny (model prog w) A (Builtin.«zip.__next__» ⟨[.ref z],[]⟩) Q E s:=by
 show wpAny _ _ (field (.ref z) 2>>=_) _ _ _
 refine qaW (wpAny_field hz rfl (x:= .bool false) rfl ?_)
 show wpAny _ _ (field (.ref z) 3>>=_) _ _ _
 refine qaW (wpAny_field hz rfl (x:= .ref TI) rfl ?_)
 refine qaW (wpAny_seqItems hTI rfl ?_)
 show wpAny _ _ (Builtin.SmallTypes.ownedTupleIsFree (.ref z)>>=_) _ _ _
 refine qaW ?_
 unfold Builtin.SmallTypes.ownedTupleIsFree
 refine qaW (wpAny_field hz rfl (x:= .none) rfl (qaX ?_))
 simp only [if_true]
 refine qaW (wpAny_rule ?_)
 refine qaW (wpAny_field hz rfl (x:= .ref TO) rfl ?_)
 refine qaW (wpAny_setField_rec hz (by simp) fun h₁ hz₁ hs₁=> ?_)
 replace hz₁:IsZip h₁ z TI TO .ellipsis:=hz₁
 refine qaW ?_
 simp only [List.zipIdx_cons,List.zipIdx_nil,List.forIn_cons,List.forIn_nil]
 refine qaW (qaW (wpAny_onRaise ?_))
 show wpAny _ _ (Builtin.SmallTypes.nextOf (.ref i1)>>=_) _ _ _
 cases hx:xs[k1]? with
 | none=>
  refine qaW (zbP (hh.keep fun b hb o e=>hs₁.extBut _ _ (fun z=>hf.1 (z▸hb)) e) (h1.extBut hs₁.extBut D.i1z) (hl1.extBut hs₁.extBut D.l1z) hx fun h₂ e hs₂ he=> ?_)
  obtain ⟨oe,hoe,hce⟩:=he
  have hz₂:IsZip h₂ z TI TO .ellipsis:=hs₂ _ _ D.i1z.symm hz₁
  have hez:e≠z:=fun x=>by subst x;rw [hz₂] at hoe;cases hoe;simp at hce
  refine wpAny_setField_rec hz₂ (by simp) fun h₃ _ hs₃=>hE h₃ e (fun c o c1 _ c3 _ x=>hs₃.extBut _ _ c1 (hs₂ _ _ c3 (hs₁.extBut _ _ c1 x))) ⟨oe,hs₃.extBut _ _ hez hoe,hce⟩
 | some x=>
  have hy:ys[k2]? = none:=by rcases hend with h | h;rw [hx] at h;cases h;exact h
  refine qaW (wpAny_nextOf_list_item (h1.extBut hs₁.extBut D.i1z) (hl1.extBut hs₁.extBut D.l1z) hx fun h₂ h1₂ hs₂=>qaX ?_)
  have hTO₂:IsPair h₂ TO a b:=hs₂.extBut _ _ D.TOi1 (hs₁.extBut _ _ D.TOz hTO)
  refine qaW (wpAny_seqItems hTO₂ rfl ?_)
  refine qaW (wpAny_updateSeq_pair hTO₂ fun h₃ hTO₃ hs₃=> ?_)
  refine qaW (wpAny_letGo (qaX ?_))
  refine qaW (qaW (wpAny_onRaise ?_))
  show wpAny _ _ (Builtin.SmallTypes.nextOf (.ref i2)>>=_) _ _ _
  refine qaW (zbP (hh.keep fun b hb o e=>hs₃.extBut _ _ (fun z=>hf.2.1 (z▸hb)) (hs₂.extBut _ _ (fun z=>hf.2.2.1 (z▸hb)) (hs₁.extBut _ _ (fun z=>hf.1 (z▸hb)) e))) (((h2.extBut hs₁.extBut D.i2z).extBut hs₂.extBut D.i12.symm).extBut hs₃.extBut D.TOi2.symm)
    (((hl2.extBut hs₁.extBut D.l2z).extBut hs₂.extBut D.l2i1).extBut hs₃.extBut D.l2TO) hy fun h₄ e hs₄ he=> ?_)
  obtain ⟨oe,hoe,hce⟩:=he
  have hz₄:IsZip h₄ z TI TO .ellipsis:=hs₄ _ _ D.i2z.symm (hs₃.extBut _ _ D.TOz.symm (hs₂.extBut _ _ D.i1z.symm hz₁))
  have hez:e≠z:=fun x=>by subst x;rw [hz₄] at hoe;cases hoe;simp at hce
  refine wpAny_setField_rec hz₄ (by simp) fun h₅ _ hs₅=>hE h₅ e (fun c o c1 c2 c3 c4 x=>hs₅.extBut _ _ c1 (hs₄ _ _ c4 (hs₃.extBut _ _ c2 (hs₂.extBut _ _ c3 (hs₁.extBut _ _ c1 x))))) ⟨oe,hs₅.extBut _ _ hez hoe,hce⟩
theorem zeS {z TI TO i1 i2 l1 l2:Addr} {k1 k2:Nat} {xs ys:Array Value} {a b:Value} {Q:Option Value->Shared->Prop} (hh:zf9 A s.heap) (hf:z∉zaz A/\TO∉zaz A/\i1∉zaz A/\i2∉zaz A) (D:ZipApart z TI TO i1 i2 l1 l2)
  (hz:IsZip s.heap z TI TO .none) (hTI:IsPair s.heap TI (.ref i1) (.ref i2)) (hTO:IsPair s.heap TO a b)
  (h1:s.heap.IsListIter i1 l1 k1) (h2:s.heap.IsListIter i2 l2 k2) (hl1:s.heap.IsList l1 xs) (hl2:s.heap.IsList l2 ys) (hend:xs[k1]? = none\/ys[k2]? = none)
  (hQ: ∀ h',(∀ c o,c≠z->c≠TO->c≠i1->c≠i2->s.heap.get? c=some o->h'.get? c=some o)->Q none {s with heap:=h'}):wpAny (model prog w) A (pyNext (.ref z)) Q E s:=by
 have hT:s.TypeIs (.ref z) "zip":=⟨_,hz,rfl⟩
 unfold pyNext
 refine qaW (wpAny_attempt (wpAny_callSpecial?_slot (name:=Str.ofString "__next__") hT F.slot_zip_next
   (wpAny_call_entry F.slot_zip_next hT F.entry_zip_next (zfv (A:=A.in1) hh hf D hz hTI hTO h1 h2 hl1 hl2 hend fun h' e hk he=> ?_) (F.args_zip_next_1 _))))
 obtain ⟨o,ho,hc⟩:=he
 refine qaW (wpAny_isInstance (T:="StopIteration") (b:=true) ⟨o,ho,hc⟩ isSubtype_stop ?_)
 exact qaX (hQ _ hk)
end
end L3
namespace L2
open PySem PySem.Spec PyProof.Rows
noncomputable def zt8 (K:W.Frag) (a b:Addr):It:=
 ⟨fun i H=> ∃ xs ys x y,SqL K H a xs/\SqL K H b ys/\xs[i]? = some x/\ys[i]? = some y,
  fun i H x H'=> ∃ T u v,H T=none/\H'=upd H T (.tup [u,v])/\x= .ref T/\(∀ xs,SqL K H a xs->xs[i]? = some u)/\ ∀ ys,SqL K H b ys->ys[i]? = some v,
  fun i H=> ∃ xs ys,SqL K H a xs/\SqL K H b ys/\(xs.length=i\/ys.length=i)⟩
def zr8 (z TI TO i1 i2 a b:Addr) (i:Nat) (h:Heap):Prop:=IsZip h z TI TO .none/\IsPair h TI (.ref i1) (.ref i2)/\(∃ u v,IsPair h TO u v)/\h.IsListIter i1 a i/\h.IsListIter i2 b i
theorem zjn {P:Program} {w:World} {K:W.Frag} {elts:List Expr} {k:Nat} {pos:Pos} (z TI TO i1 i2 a b:Addr) (D:ZipApart z TI TO i1 i2 a b):zlC P w K (.Tuple elts k pos) (zt8 K a b) [z,TI,TO,i1,i2] z (zr8 z TI TO i1 i2 a b) where
 mem:=by simp
 obj:=fun i h st c hc=>by
  obtain ⟨hz,hTI,⟨u,v,hTO⟩,⟨o1,ho1,hc1,hd1⟩,o2,ho2,hc2,hd2⟩:=st
  have q:c=z\/c=TI\/c=TO\/c=i1\/c=i2:=by simpa using hc
  rcases q with rfl | rfl | rfl | rfl | rfl
  ·exact ⟨_,hz,fun v z=>by cases z⟩
  ·exact ⟨_,hTI,fun v z=>by cases z⟩
  ·exact ⟨_,hTO,fun v z=>by cases z⟩
  ·exact ⟨o1,ho1,fun v z=>by rw [hd1] at z;cases z⟩
  ·exact ⟨o2,ho2,fun v z=>by rw [hd2] at z;cases z⟩
 keep:=fun i h h' st k=>by
  obtain ⟨hz,hTI,⟨u,v,hTO⟩,h1,h2⟩:=st
  exact ⟨k z (by simp) _ hz,k TI (by simp) _ hTI,⟨u,v,k TO (by simp) _ hTO⟩,h1.at fun o q=>k i1 (by simp) o q,h2.at fun o q=>k i2 (by simp) o q⟩
 item:=by
  intro X hP hw hK i pins s σ H E I hf st hg
  subst hP hw hK
  obtain ⟨xs,ys,x,y,hqx,hqy,hx,hy⟩:=hg
  obtain ⟨itx,rx,px,_⟩:=I.list hqx
  obtain ⟨ity,ry,py,_⟩:=I.list hqy
  obtain ⟨u,hu,ru⟩:=rx.get hx
  obtain ⟨v,hv,rv⟩:=ry.get hy
  obtain ⟨hz,hTI,⟨c,d,hTO⟩,h1,h2⟩:=st
  refine wpAny_pyNext_zip_item D hz hTI hTO h1 h2 px.isList py.isList (x:=u) (y:=v) (by simpa using hu) (by simpa using hv) fun h' a1 a2 a3 a4 a5 a6 hk=> ?_
  refine ⟨_,rfl,wpAny_letOwnedTupleGo_zip a1 fun h2' b1 hs2=> ?_⟩
  have fresh:=I.hok.fresh (qaV s.heap.objs.size)
  have lt: ∀ {c o},s.heap.get? c=some o->c≠s.heap.objs.size:=fun e=>qaR (qaQ e)
  have lz:=lt hz
  have lTI:=lt hTI
  have lTO:=lt hTO
  have l1:i1≠s.heap.objs.size:=by obtain ⟨_,e,_⟩:=h1;exact lt e
  have l2:i2≠s.heap.objs.size:=by obtain ⟨_,e,_⟩:=h2;exact lt e
  have I1:Inv X pins σ (upd H s.heap.objs.size (.tup [x,y])) {s with heap:=s.heap.push {cls:= .type "tuple",data:= .seq #[u,v]},toks:=s.toks}:=
   I.laid (t':=s.toks) (fun b o q=>qag _ q) (qaV _) (show zbz X.prog X.w _ _ _ (.tup [x,y]) from ⟨by show 2<=sizeLine;decide,[u,v],.cons ru (.cons rv .nil),zi2.new _ _⟩)
  have fp: ∀ c∈[z,TI,TO,i1,i2],zfN X pins (upd H s.heap.objs.size (.tup [x,y])) c:=fun c hc=>by
   have hcn:c≠s.heap.objs.size:=by
    have q:c=z\/c=TI\/c=TO\/c=i1\/c=i2:=by simpa using hc
    rcases q with rfl | rfl | rfl | rfl | rfl<;>assumption
   exact ⟨by rw [zax hcn];exact (hf c hc).1,(hf c hc).2⟩
  have I2:Inv X pins σ (upd H s.heap.objs.size (.tup [x,y])) {s with heap:=h',toks:=s.toks}:=I1.turnedL (t':=s.toks) (h':=h') (fun b o hb q=>by
    rcases Heap.get?_push_cases q with ⟨z1,z2⟩ | q'
    · rw [z1,z2];exact a5
    · exact hk b o (fun e=>hb (by simp [e])) (fun e=>hb (by simp [e])) (fun e=>hb (by simp [e])) (fun e=>hb (by simp [e])) q') fp
  have I3:Inv X pins σ (upd H s.heap.objs.size (.tup [x,y])) {s with heap:=h2',toks:=s.toks}:=I2.turnedL (s:={s with heap:=h',toks:=s.toks}) (h':=h2') (t':=s.toks) (ch:=[z]) (fun b o hb q=>(hs2.2 b (fun e=>hb (by simp [e]))).trans q) (fun b hb=>fp b (by simp at hb;simp [hb]))
  refine ⟨.ref s.heap.objs.size,_,I3,rfl,⟨s.heap.objs.size,x,y,fresh,rfl,rfl,fun xs' hx'=>by rw [I.list_inj hx' hqx];exact hx,fun ys' hy'=>by rw [I.list_inj hy' hqy];exact hy⟩,
    ⟨b1,hs2.extBut _ _ D.TIz (hk _ _ D.TIz D.TITO D.TIi1 D.TIi2 hTI),⟨u,v,hs2.extBut _ _ D.TOz a2⟩,a3.extBut hs2.extBut D.i1z,a4.extBut hs2.extBut D.i2z⟩,fun c hc=>(fp c hc).1⟩
 done:=by
  intro X hP hw hK i pins s σ H E I hf st hg
  subst hP hw hK
  obtain ⟨xs,ys,hqx,hqy,hn⟩:=hg
  obtain ⟨itx,rx,px,_⟩:=I.list hqx
  obtain ⟨ity,ry,py,_⟩:=I.list hqy
  obtain ⟨hz,hTI,⟨c,d,hTO⟩,h1,h2⟩:=st
  have hnd:itx.toArray[i]? = none\/ity.toArray[i]? = none:=by
   have e1:=rx.length
   have e2:=ry.length
   rcases hn with q | q
   ·left;simp;omega
   ·right;simp;omega
  obtain ⟨o1,ho1,_,hd1⟩:=id h1
  obtain ⟨o2,ho2,_,hd2⟩:=id h2
  refine L3.zeS I.hand ⟨zce I.hand hz (fun vs e=>by cases e;simp),zce I.hand hTO (fun vs e=>by cases e),zce I.hand ho1 (fun vs e=>by rw [hd1] at e;cases e;simp),zce I.hand ho2 (fun vs e=>by rw [hd2] at e;cases e;simp)⟩ D hz hTI hTO h1 h2
   px.isList py.isList hnd fun h' hk=>⟨rfl,I.turnedL (t':=s.toks) (ch:=[z,TO,i1,i2]) (fun b o hb q=>hk b o (fun e=>hb (by simp [e])) (fun e=>hb (by simp [e])) (fun e=>hb (by simp [e])) (fun e=>hb (by simp [e])) q) fun b hb=>hf b (by simp at hb ⊢; rcases hb with e | e | e | e<;>simp [e])⟩
 self:=fun _ _ _ _ _ st h=>wpAny_pyIter_zip st.1 h
section
variable {X:Cx} {elts:List Expr} {k:Nat} {tpos:Pos}
noncomputable def zqH (K:W.Frag) (ta:TA):TI:=fun σ H R=>ta σ H fun vs H1=> ∃ a b,vs=[.ref a,.ref b]/\(∃ xs,SqL K H1 a xs)/\(∃ ys,SqL K H1 b ys)/\R (zt8 K a b) H1
theorem zoP {l m:Expr} {ta:TA} {p pos:Pos} (hg:Gl X "zip") (hm:X.mg "zip"=none) (ha:PA X [l,m] ta) (hs1:starEach [l,m] X.env=(false,eval l X.env)::starEach [m] X.env:=by rfl) (hs2:starEach [m] X.env=[(false,eval m X.env)]:=by rfl):
  PI X (.Tuple elts k tpos) (.Call (.Name "zip" p) [l,m] [] pos) (zqH X.K ta):=by
 intro pins s σ H R I h
 refine Call_ (zd4 I hg hm PyProof.Rows.boot_zip (PyProof.Rows.callWith_type1 (thn (ha pos pins s σ H _ I h) fun us s1 ⟨vs,H1,I1,r1,q1⟩=> ?_) hs1 (by rw [hs2];rfl)))
 obtain ⟨a,b,e,⟨xs,hqx⟩,⟨ys,hqy⟩,q⟩:=q1
 subst e
 cases r1 with
 | cons r rr=>
  cases rr with
  | cons r' rr=>
  cases rr
  cases r
  cases r'
  obtain ⟨itx,rx,px,_⟩:=I1.list hqx
  obtain ⟨ity,ry,py,_⟩:=I1.list hqy
  have la:a<s1.heap.objs.size:=by obtain ⟨_,e,_⟩:=px.isList;exact qaQ e
  have lb:b<s1.heap.objs.size:=by obtain ⟨_,e,_⟩:=py.isList;exact qaQ e
  refine call_zip_2 px.isList py.isList fun h' hz hTI hTO h1 h2 hsz kp=> ?_
  refine wpAny_pyIter_zip hz ?_
  refine ⟨s1.heap.objs.size+4,[s1.heap.objs.size+4,s1.heap.objs.size+2,s1.heap.objs.size+3,s1.heap.objs.size,s1.heap.objs.size+1],_,_,H1,rfl,I1.kept (t':=s1.toks) kp,
    zjn _ _ _ _ _ a b (znp la lb),⟨hz,hTI,⟨_,_,hTO⟩,h1,h2⟩,fun c hc=> ?_,q⟩
  have q:s1.heap.objs.size<=c:=by
   have z:c=s1.heap.objs.size+4\/c=s1.heap.objs.size+2\/c=s1.heap.objs.size+3\/c=s1.heap.objs.size\/c=s1.heap.objs.size+1:=by simpa using hc
   rcases z with e | e | e | e | e<;>rw [e]
   ·exact Nat.le_add_right _ 4
   ·exact Nat.le_add_right _ 2
   ·exact Nat.le_add_right _ 3
   ·exact qaV _
   ·exact Nat.le_add_right _ 1
  exact I1.fpOk q (I1.hok.fresh q)
end
end L2
namespace L3
open PySem PySem.Spec PyProof.Rows L2
section
variable {X:Cx} {E:XE} {elts:List Expr} {k:Nat} {tpos pos:Pos}
theorem zj4 {K:W.Frag} {ι:Io} {H:Hp} {a b:Addr} {vs us:List V} {ds es:List D} (h: ∀ ι' H',Pass ι H ι' H'->SqL K H' a vs) (g: ∀ ι' H',Pass ι H ι' H'->SqL K H' b us) (rl:zas K ι H ds vs) (rm:zas K ι H es us):zlh K ι H (zt8 K a b) (zf5 ds es) where
 go:=fun ι' H' i s hi=>by
  have hi:i<ds.length/\i<es.length:=by simp [zf5] at hi;omega
  obtain ⟨v,ev,_⟩:=zas.get rl (i:=i) (d:=ds[i]) (by simp [hi])
  obtain ⟨u,eu,_⟩:=zas.get rm (i:=i) (d:=es[i]) (by simp [hi])
  exact ⟨vs,us,v,u,h ι' H' s,g ι' H' s,ev,eu⟩
 yld:=fun ι' H' _ i x H2 s hr hi ⟨T,y,y2,hT,e,e2,hy,hy2⟩=>by
  subst e e2
  have hi:i<ds.length/\i<es.length:=by simp [zf5] at hi;omega
  obtain ⟨v,ev,rv⟩:=zas.get rl (i:=i) (d:=ds[i]) (by simp [hi])
  obtain ⟨u,eu,ru⟩:=zas.get rm (i:=i) (d:=es[i]) (by simp [hi])
  have ey:=hy vs (h ι' H' s)
  rw [ev] at ey
  cases ey
  have ez:=hy2 us (g ι' H' s)
  rw [eu] at ez
  cases ez
  refine ⟨.inr ⟨T,_,hT,rfl⟩,.tup [ds[i],es[i]],by simp [zf5,List.getElem?_zip_eq_some,hi],?_⟩
  obtain ⟨st,hr2⟩:=zpm.step (.inr ⟨T,[y,y2],hT,rfl⟩) hr
  have rv2:Rel K ι' (upd H' T (.tup [y,y2])) ds[i] y:=(rv.pass s).step st
  have ru2:Rel K ι' (upd H' T (.tup [y,y2])) es[i] y2:=(ru.pass s).step st
  simp only [Rel]
  exact ⟨T,_,rfl,⟨zaH,hr.nin hT⟩,zas.cons rv2 (zas.cons ru2 zas.nil)⟩
 stop:=fun ι' H' s=>⟨vs,us,h ι' H' s,g ι' H' s,by rw [<- rl.length, <-rm.length];simp [zf5];omega⟩
noncomputable def zlN:List D->M (List D)
 | [.lst ds,.lst es]=>pure (zf5 ds es)
 | _=>M.bad
noncomputable def zke (fs:FA):FA:=fun sd=>do let ds<-fs sd;zlN ds
theorem zq6 {l m:Expr} {fs:FA} {p:Pos} (hm:X.mg "zip"=none) (ha:SA X E [l,m] fs) (hg:Gl X "zip":=by rfl) (hs1:starEach [l,m] X.env=(false,eval l X.env)::starEach [m] X.env:=by rfl) (hs2:starEach [m] X.env=[(false,eval m X.env)]:=by rfl):
  SI X E (.Tuple elts k tpos) (.Call (.Name "zip" p) [l,m] [] pos) (zke fs):=by
 refine PI.imp (zoP hg hm ha hs1 hs2) fun σ H Q ⟨ι,h,sd,L,hh,q⟩=>⟨ι,h,sd,L,hh,Fin.bind q fun ds h1 ι1 H1 e1 s1 hr1 q1 vs rv=> ?_⟩
 unfold zlN at q1
 split at q1
 ·rename_i ds es
  unfold zas at rv
  obtain ⟨v,r,e1,r1,rv⟩:=rv
  unfold zas at rv
  obtain ⟨v',r',e2,r2,rv⟩:=rv
  unfold zas at rv
  subst rv e2 e1
  obtain ⟨a,vs,e,g1,g2⟩:=zfQ r1
  obtain ⟨b,us,e',g3,g4⟩:=zfQ r2
  exact ⟨a,b,by rw [e,e'],⟨vs,g1 _ _ (Pass.refl _ _)⟩,⟨us,g3 _ _ (Pass.refl _ _)⟩,Fin.out hr1 q1 _ (zj4 g1 g3 g2 g4)⟩
 ·exact qa0 q1
end
section
variable {X:Cx} {E:XE} {scope:Scope} {N:List Str} {src:List (Option Nat)} {tg iter elt:Expr} {ifs:List Expr} {pos:Pos}
theorem ziV {fi:Sd->M (List D)} {g:D->Sd->M Sd} {tc:Sd->M Bool} {te:Sd->M D} (i:Nat) {y:Str} {py spos:Pos} (B:BOk X scope N src) (hk:zaC g src) (hi:SI X E tg iter fi)
  (hg: ∀ s H fp,SG (cxB X scope N s H fp) E tg g) (ht: ∀ s H fp,SCs (cxB X scope N s H fp) E ifs tc) (he: ∀ s H fp,SE (cxB X scope N s H fp) E elt te)
  (hN:X.N.Nodup) (hy:X.N[i]? = some y) (hx:Loc X.env.scope y) (hf:X.fn y=true\/X.env.scope.names.lookup y=some .local) (hsw:swapsWith (.ListComp elt [⟨tg,iter,ifs,0⟩] scope pos) (some (.Name y py)) spos.line X.env=pure true)
  (hs: ∀ x,foldedSetIterable iter X.env x=pure x:=by intro _;rfl):SS X E (.Assign [.Name y py] (.ListComp elt [⟨tg,iter,ifs,0⟩] scope pos) spos) (fun sd=>do let d<-zfj fi g tc te src sd;pure (.nx (sd.set i (some d)))):=by
 refine PS.imp (zfo B hi hg ht he hN hy hx hsw hf hs) fun D0 σ H ⟨ι,h,sd,L,hh,q⟩=>zmx hk σ H _ ⟨ι,h,sd,L,hh,Fin.bind q fun d h1 ι1 H1 e1 s1 hr1 q1 v rv=> ?_⟩
 exact Fin.out (E:=E) (P:=zfW X.K D0) hr1 q1 _ ((L.step s1).set rv i)
theorem ziX {scope:Scope} {N:List Str} {src:List (Option Nat)} {tg iter elt:Expr} {ifs:List Expr} {fi:FA} {g:D->Sd->M Sd} {tc:FT} {te:FE} (i:Nat) {y:Str} {py spos:Pos} (hc:X.calm=true) (hN:X.N.Nodup) (B:BOk X scope N src) (hk:zaC g src) (hi:SI X E tg iter fi)
  (hg: ∀ s H fp,SG (cxB X scope N s H fp) E tg g) (ht: ∀ s H fp,SCs (cxB X scope N s H fp) E ifs tc) (he: ∀ s H fp,SE (cxB X scope N s H fp) E elt te)
  (hy:X.N[i]? = some y:=by rfl) (hx:Loc X.env.scope y:=by first | exact Or.inl rfl | exact Or.inr rfl) (hf:X.fn y=true\/X.env.scope.names.lookup y=some .local:=by first | exact Or.inl rfl | exact Or.inr rfl) (hsw:swapsWith (.ListComp elt [⟨tg,iter,ifs,0⟩] scope pos) (some (.Name y py)) spos.line X.env=pure true:=by rfl)
  (hs: ∀ x,foldedSetIterable iter X.env x=pure x:=by intro _;rfl):SS X E (.Assign [.Name y py] (.ListComp elt [⟨tg,iter,ifs,0⟩] scope pos) spos) (zbT i (zfj fi g tc te src)):=ziV i B hk hi hg ht he hN hy hx hf hsw hs
end
end L3
namespace SX
noncomputable def sm:Nat->(Nat->Int)->Int
 | 0,_=>0
 | n+1,f=>sm n f+f n
theorem zaq {f g:Nat->Int}: ∀ {n:Nat},(∀ i,i<n->f i=g i)->sm n f=sm n g
 | 0,_=>rfl
 | n+1,h=>by rw [sm,sm,zaq fun i hi=>h i (by omega),h n (by omega)]
theorem zbN: ∀ n:Nat,sm n (fun _=>0)=0
 | 0=>rfl
 | n+1=>by rw [sm,zbN n];rfl
theorem zgd (f g:Nat->Int): ∀ n:Nat,sm n (fun i=>f i+g i)=sm n f+sm n g
 | 0=>rfl
 | n+1=>by rw [sm,sm,sm,zgd f g n];omega
theorem zcO (t:Int) (f:Nat->Int): ∀ n:Nat,sm n (fun i=>t*f i)=t*sm n f
 | 0=>by rw [sm,sm,Int.mul_zero]
 | n+1=>by rw [sm,sm,zcO t f n,Int.mul_add]
theorem zhf (f:Nat->Int): ∀ {n k:Nat},k<n->sm n f=f k+sm n (fun i=>if i=k then 0 else f i)
 | n+1,k,h=>by
  rw [sm,sm]
  by_cases e:k=n
  ·subst e
   rw [qa4 rfl,zaq (g:=f) (n:=k) fun i hi=>qa5 (by omega)]
   omega
  ·rw [zhf f (show k<n by omega),qa5 (show ¬n=k by omega)]
   omega
theorem zpl {f:Nat->Int}: ∀ {n:Nat},(∀ i,i<n->0<=f i)->0<=sm n f
 | 0,_=>Int.le_refl _
 | n+1,h=>by
  have h1:=zpl (n:=n) fun i hi=>h i (by omega)
  have h2:=h n (by omega)
  rw [sm]
  omega
theorem zop {f g:Nat->Int}: ∀ {n:Nat},(∀ i,i<n->f i<=g i)->sm n f<=sm n g
 | 0,_=>Int.le_refl _
 | n+1,h=>by
  have h1:=zop (n:=n) fun i hi=>h i (by omega)
  have h2:=h n (by omega)
  rw [sm,sm]
  omega
theorem zhN (f:Nat->Nat->Int) (n:Nat): ∀ m:Nat,sm m (fun j=>sm n fun i=>f i j)=sm n fun i=>sm m fun j=>f i j
 | 0=>by simp only [sm];exact (zbN n).symm
 | m+1=>by
  rw [sm,zhN f n m, <-zgd]
  rfl
noncomputable abbrev Vc:=Nat->Int
noncomputable def al (ω:List Vc->Int) (φ:Vc->Int):List Vc->List Vc->Int->Int
 | _,[],_=>0
 | pre,v::r,s=>s*φ v*ω (pre++r)+al ω φ (pre++[v]) r (-s)
noncomputable def sg:Nat->Int
 | 0=>1
 | n+1=> - sg n
noncomputable def wd:Nat->List Vc->Int
 | 0,_=>1
 | n+1,vs=>al (wd n) (fun v=>v n) [] vs (sg n)
structure AM (n:Nat) (ω:List Vc->Int):Prop where
 lin: ∀ (as bs:List Vc) (u v:Vc) (t:Int),as.length+bs.length+1=n->ω (as++(fun i=>u i+t*v i)::bs)=ω (as++u::bs)+t*ω (as++v::bs)
 adj: ∀ (as bs:List Vc) (v:Vc),as.length+bs.length+2=n->ω (as++v::v::bs)=0
section
variable {n:Nat} {ω:List Vc->Int} {φ:Vc->Int}
theorem zni (h:AM n ω) {u v:Vc} {t:Int}: ∀ (rest p1 p2:List Vc) (s:Int),p1.length+p2.length+1+rest.length=n+1->
  al ω φ (p1++(fun i=>u i+t*v i)::p2) rest s=al ω φ (p1++u::p2) rest s+t*al ω φ (p1++v::p2) rest s
 | [],p1,p2,s,_=>by simp only [al];omega
 | w::r,p1,p2,s,hl=>by
  rw [qaE] at hl
  have e1:=h.lin p1 (p2++r) u v t (by rw [qav];omega)
  have ih:=zni h r p1 (p2++[w]) (-s) (by rw [qav,List.length_singleton];omega) (u:=u) (v:=v) (t:=t)
  simp only [al,List.append_assoc,List.cons_append] at ih ⊢
  rw [ih,e1]
  simp only [Int.mul_add]
  have e2:s*φ w*(t*ω (p1++v::(p2++r)))=t*(s*φ w*ω (p1++v::(p2++r))):=by rw [Int.mul_left_comm]
  omega
theorem znr (h:AM n ω) (hφ: ∀ (u v:Vc) (t:Int),φ (fun i=>u i+t*v i)=φ u+t*φ v) {u v:Vc} {t:Int}: ∀ (as pre bs:List Vc) (s:Int),pre.length+as.length+bs.length+1=n+1->
  al ω φ pre (as++(fun i=>u i+t*v i)::bs) s=al ω φ pre (as++u::bs) s+t*al ω φ pre (as++v::bs) s
 | [],pre,bs,s,hl=>by
  have e:=zni (φ:=φ) h (u:=u) (v:=v) (t:=t) bs pre [] (-s) (by simp at hl ⊢; omega)
  simp only [List.nil_append,al]
  rw [e,hφ]
  have e1:s*(φ u+t*φ v)*ω (pre++bs)=s*φ u*ω (pre++bs)+t*(s*φ v*ω (pre++bs)):=by
   rw [Int.mul_add,Int.add_mul]
   congr 1
   rw [<- Int.mul_assoc s t,Int.mul_comm s t,Int.mul_assoc t s,Int.mul_assoc t]
  rw [e1,Int.mul_add]
  omega
 | a::as,pre,bs,s,hl=>by
  rw [qaE] at hl
  have e1:=h.lin (pre++as) bs u v t (by rw [qav];omega)
  have ih:=znr h hφ (u:=u) (v:=v) (t:=t) as (pre++[a]) bs (-s) (by rw [qav,List.length_singleton];omega)
  simp only [List.append_assoc] at e1
  simp only [List.cons_append,al]
  rw [ih,e1]
  simp only [Int.mul_add]
  have e2:s*φ a*(t*ω (pre++(as++v::bs)))=t*(s*φ a*ω (pre++(as++v::bs))):=by rw [Int.mul_left_comm]
  omega
theorem zkK (h:AM n ω) {v:Vc}: ∀ (rest p1 p2:List Vc) (s:Int),p1.length+p2.length+2+rest.length=n+1->al ω φ (p1++v::v::p2) rest s=0
 | [],p1,p2,s,_=>rfl
 | w::r,p1,p2,s,hl=>by
  rw [qaE] at hl
  have e1:=h.adj p1 (p2++r) v (by rw [qav];omega)
  have ih:=zkK h r p1 (p2++[w]) (-s) (by rw [qav,List.length_singleton];omega) (v:=v)
  simp only [al,List.append_assoc,List.cons_append] at ih ⊢
  rw [ih,e1]
  omega
theorem zno (h:AM n ω) {v:Vc}: ∀ (as pre bs:List Vc) (s:Int),pre.length+as.length+bs.length+2=n+1->al ω φ pre (as++v::v::bs) s=0
 | [],pre,bs,s,hl=>by
  have e:=zkK (φ:=φ) h (v:=v) bs pre [] (- -s) (by simp at hl ⊢; omega)
  simp only [List.nil_append,al,List.append_assoc,List.cons_append]
  rw [e]
  simp only [Int.neg_mul,Int.add_zero]
  omega
 | a::as,pre,bs,s,hl=>by
  rw [qaE] at hl
  have e1:=h.adj (pre++as) bs v (by rw [qav];omega)
  have ih:=zno h (v:=v) as (pre++[a]) bs (-s) (by rw [qav,List.length_singleton];omega)
  simp only [List.append_assoc] at e1
  simp only [List.cons_append,al]
  rw [ih,e1]
  omega
end
theorem zg5: ∀ n,AM n (wd n)
 | 0=>⟨fun as bs u v t h=>by omega,fun as bs v h=>by omega⟩
 | n+1=>⟨fun as bs u v t h=>znr (zg5 n) (fun _ _ _=>rfl) as [] bs (sg n) (by simp;omega),fun as bs v h=>zno (zg5 n) as [] bs (sg n) (by simp;omega)⟩
section
variable {n:Nat} {ω:List Vc->Int}
theorem AM.zero (h:AM n ω) (as bs:List Vc) (hl:as.length+bs.length+1=n):ω (as++(fun _=>0)::bs)=0:=by
 have e:=h.lin as bs (fun _=>0) (fun _=>0) 1 hl
 have e2:(fun i:Nat=>(0:Int)+1*0)=fun _=>0:=rfl
 rw [e2] at e
 omega
theorem AM.sum (h:AM n ω) (as bs:List Vc) (hl:as.length+bs.length+1=n) (t:Nat->Int) (w:Nat->Vc): ∀ k:Nat,ω (as++(fun i=>sm k fun j=>t j*w j i)::bs)=sm k fun j=>t j*ω (as++w j::bs)
 | 0=>h.zero as bs hl
 | k+1=>by
  have e:=h.lin as bs (fun i=>sm k fun j=>t j*w j i) (w k) (t k) hl
  rw [sm, <-AM.sum h as bs hl t w k, <-e]
  rfl
theorem AM.anti (h:AM n ω) (as bs:List Vc) (u v:Vc) (hl:as.length+bs.length+2=n):ω (as++u::v::bs)= - ω (as++v::u::bs):=by
 have e0:=h.adj as bs (fun i=>u i+1*v i) hl
 have e1:=h.lin as ((fun i=>u i+1*v i)::bs) u v 1 (by rw [qaE];omega)
 have e2:=h.lin (as++[u]) bs u v 1 (by rw [qav,List.length_singleton];omega)
 have e3:=h.lin (as++[v]) bs u v 1 (by rw [qav,List.length_singleton];omega)
 have a1:=h.adj as bs u hl
 have a2:=h.adj as bs v hl
 simp only [List.append_assoc,List.cons_append,List.nil_append] at e2 e3
 rw [e1,e2,e3,a1,a2] at e0
 omega
theorem AM.same (h:AM n ω) (u:Vc): ∀ (ms as bs:List Vc),as.length+ms.length+bs.length+2=n->ω (as++u::(ms++u::bs))=0
 | [],as,bs,hl=>h.adj as bs u (by simp at hl;omega)
 | m::ms,as,bs,hl=>by
  rw [qaE] at hl
  have e:=h.anti as (ms++u::bs) u m (by simp;omega)
  have ih:=AM.same h u ms (as++[m]) bs (by simp;omega)
  simp only [List.append_assoc,List.cons_append,List.nil_append] at ih e ⊢
  rw [e,ih]
  rfl
theorem AM.two (h:AM n ω) {l:List Vc} (hl:l.length=n) {i j:Nat} (hij:i<j) (hj:j<n) (e:l[i]? = l[j]?):ω l=0:=by
 have hj':j<l.length:=by omega
 have hi':i<l.length:=by omega
 rw [qaf hi',qaf hj'] at e
 have e:=Option.some.inj e
 have e1:l=l.take i++l[i]::l.drop (i+1):=by simp
 have hd:j - (i+1)<(l.drop (i+1)).length:=by rw [List.length_drop];omega
 have key: ∀ (L:List Vc) (q:Nat) (h:q<L.length),L=L.take q++L[q]::L.drop (q+1):=fun L q h=>by simp
 have e2:=key _ _ hd
 have e3:(l.drop (i+1))[j - (i+1)]=l[i]:=by
  rw [List.getElem_drop,e]
  congr 1
  omega
 rw [e3] at e2
 rw [e1,e2]
 refine h.same _ _ _ _ ?_
 simp only [List.length_take,List.length_drop]
 omega
theorem zdp {l:List Vc} {k:Nat} (hk:k<l.length) (x:Vc):l.set k x=l.take k++x::l.drop (k+1):=by
 rw [List.set_eq_take_append_cons_drop,qa4 hk]
theorem AM.cram (h:AM n ω) {l:List Vc} (hl:l.length=n) {k:Nat} (hk:k<n) {x:Vc} {d:Int} {t:Nat->Int} (hx:(fun i=>d*x i)=fun i=>sm n fun j=>t j*(l.getD j (fun _=>0)) i):d*ω (l.set k x)=t k*ω l:=by
 have hk':k<l.length:=by omega
 have hs:(l.take k).length+(l.drop (k+1)).length+1=n:=by rw [List.length_take,List.length_drop];omega
 have e1:ω (l.take k++(fun i=>d*x i)::l.drop (k+1))=d*ω (l.set k x):=by
  have:=h.lin (l.take k) (l.drop (k+1)) (fun _=>0) x d hs
  rw [h.zero _ _ hs,Int.zero_add] at this
  rw [zdp hk', <-this]
  congr 3
  funext i
  rw [Int.zero_add]
 rw [<- e1,hx,h.sum _ _ hs,zhf _ hk]
 have e2:ω (l.take k++l.getD k (fun _=>0)::l.drop (k+1))=ω l:=by
  congr 1
  simp [List.getD,hk']
 rw [e2]
 have e3:sm n (fun i=>if i=k then 0 else t i*ω (l.take k++l.getD i (fun _=>0)::l.drop (k+1)))=0:=by
  refine Eq.trans (zaq (g:=fun _=>0) fun j hj=> ?_) (zbN n)
  split
  ·rfl
  ·rename_i hne
   have hj':j<l.length:=by omega
   have:ω (l.set k (l.getD j fun _=>0))=0:=by
    have hg:(l.set k (l.getD j fun _=>0))[j]? = (l.set k (l.getD j fun _=>0))[k]? := by
     rw [qao (by omega),qai hk']
     simp [List.getD,hj']
    rcases Nat.lt_or_gt_of_ne hne with z | z
    ·exact h.two (by rw [qaI];exact hl) z hk hg
    ·exact h.two (by rw [qaI];exact hl) z hj hg.symm
   rw [<- zdp hk',this,Int.mul_zero]
 rw [e3,Int.add_zero]
end
noncomputable def col (n:Nat) (A:Nat->Nat->Int) (c:Nat):Vc:=fun i=>if i<n then A i c else 0
noncomputable def zdm (n:Nat) (A:Nat->Nat->Int) (bs:Nat->Nat):List Vc:=(List.range n).map fun k=>col n A (bs k)
structure Tb (n C:Nat) (A:Nat->Nat->Int) (bs:Nat->Nat) (T:Nat->Nat->Int) (d:Int):Prop where
 dp:0<d
 dep: ∀ c,c<C-> ∀ i,i<n->d*A i c=sm n fun k=>T k c*A i (bs k)
 goal: ∀ c,c<C->d*A n c=(sm n fun k=>T k c*A n (bs k))+T n c
 det:wd n (zdm n A bs)=d
 bd: ∀ k,k<n->bs k<C
section
variable {n C:Nat} {A:Nat->Nat->Int} {bs:Nat->Nat} {T:Nat->Nat->Int} {d:Int}
theorem zbw:(zdm n A bs).length=n:=by simp [zdm]
theorem zhp {k:Nat} (h:k<n):(zdm n A bs).getD k (fun _=>0)=col n A (bs k):=by simp [zdm,List.getD,h]
theorem zs5 {e:Int} {c:Nat} {t:Nat->Int} (h: ∀ i,i<n->e*A i c=sm n fun k=>t k*A i (bs k)):(fun i=>e*col n A c i)=fun i=>sm n fun k=>t k*((zdm n A bs).getD k (fun _=>0)) i:=by
 funext i
 by_cases hi:i<n
 ·rw [show col n A c i=A i c from qa4 hi,h i hi]
  refine zaq fun k hk=> ?_
  rw [zhp hk,show col n A (bs k) i=A i (bs k) from qa4 hi]
 ·rw [show col n A c i=0 from qa5 hi,Int.mul_zero]
  refine (Eq.trans (zaq (g:=fun _=>0) fun k hk=> ?_) (zbN n)).symm
  rw [zhp hk,show col n A (bs k) i=0 from qa5 hi,Int.mul_zero]
theorem Tb.ent (t:Tb n C A bs T d) {k c:Nat} (hk:k<n) (hc:c<C):wd n ((zdm n A bs).set k (col n A c))=T k c:=by
 have e:=(zg5 n).cram zbw hk (zs5 (bs:=bs) (t.dep c hc))
 rw [t.det,Int.mul_comm (T k c)] at e
 exact Int.eq_of_mul_eq_mul_left (by have:=t.dp;omega) e
theorem Tb.diag (t:Tb n C A bs T d) {k i:Nat} (hk:k<n) (hi:i<n):T k (bs i)=if k=i then d else 0:=by
 rw [<- t.ent hk (t.bd i hi)]
 have hl:k<(zdm n A bs).length:=by rw [zbw];exact hk
 have ek:(zdm n A bs)[k]? = some (col n A (bs k)):=by simp [zdm,hk]
 have ei:(zdm n A bs)[i]? = some (col n A (bs i)):=by simp [zdm,hi]
 split
 ·rename_i e
  subst e
  have:(zdm n A bs).set k (col n A (bs k))=zdm n A bs:=by
   refine List.ext_getElem? fun j=> ?_
   by_cases hj:k=j
   ·subst hj
    rw [qai hl,ek]
   ·rw [qao hj]
  rw [this,t.det]
 ·rename_i hne
  have hg:((zdm n A bs).set k (col n A (bs i)))[i]? = ((zdm n A bs).set k (col n A (bs i)))[k]? := by
   rw [qao hne,qai hl,ei]
  rcases Nat.lt_or_gt_of_ne hne with z | z
  ·exact (zg5 n).two (by rw [qaI,zbw]) z hi hg.symm
  ·exact (zg5 n).two (by rw [qaI,zbw]) z hk hg
theorem Tb.goal0 (t:Tb n C A bs T d) {i:Nat} (hi:i<n):T n (bs i)=0:=by
 have e:=t.goal (bs i) (t.bd i hi)
 rw [zhf _ hi] at e
 have e2:sm n (fun k=>if k=i then 0 else T k (bs i)*A n (bs k))=0:=by
  refine Eq.trans (zaq (g:=fun _=>0) fun k hk=> ?_) (zbN n)
  split
  ·rfl
  ·rename_i hne
   rw [t.diag hk hi,qa5 hne,Int.zero_mul]
 rw [e2,t.diag hi hi,qa4 rfl] at e
 omega
noncomputable def nb (bs:Nat->Nat) (pl c:Nat):Nat->Nat:=fun k=>if k=pl then c else bs k
noncomputable def piv (T:Nat->Nat->Int) (d:Int) (pl c:Nat):Nat->Nat->Int:=fun k x=>if k=pl then T pl x else (T k x*T pl c - T pl x*T k c) / d
theorem zjw {pl c:Nat} (hp:pl<n):zdm n A (nb bs pl c)=(zdm n A bs).set pl (col n A c):=by
 have hl:pl<(zdm n A bs).length:=by rw [zbw];exact hp
 refine List.ext_getElem? fun j=> ?_
 by_cases hj:pl=j
 ·subst hj
  rw [qai hl]
  simp [zdm,nb,hp]
 ·rw [qao hj]
  have: ¬j=pl:=fun z=>hj z.symm
  by_cases hjn:j<n
  ·simp [zdm,nb,this,hjn]
  ·rw [List.getElem?_eq_none (by rw [zbw];omega),List.getElem?_eq_none (by rw [zbw];omega)]
theorem zjq (f:Nat->Int) {pl:Nat} (hp:pl<n):sm n (fun k=>if k=pl then 0 else f k)=sm n f - f pl:=by
 rw [zhf f hp]
 omega
noncomputable def rr (T:Nat->Nat->Int) (d:Int) (pl c x k:Nat):Int:=if k=pl then d*T pl x else T k x*T pl c - T pl x*T k c
theorem zjx {pl c x:Nat} (hp:pl<n) {a ac:Int} {f:Nat->Int} {S Sc:Int} (h1:(sm n fun k=>T k x*f k)=S) (h2:(sm n fun k=>T k c*f k)=Sc):
  (sm n fun k=>rr T d pl c x k*(if k=pl then ac else f k))=d*T pl x*ac+T pl c*(S - T pl x*f pl) - T pl x*(Sc - T pl c*f pl):=by
 rw [zhf _ hp]
 have e1:sm n (fun k=>if k=pl then 0 else rr T d pl c x k*(if k=pl then ac else f k))=sm n (fun k=>T pl c*(if k=pl then 0 else T k x*f k)+(- T pl x)*(if k=pl then 0 else T k c*f k)):=by
  refine zaq fun k hk=> ?_
  by_cases e:k=pl
  ·simp only [e,if_true,Int.mul_zero,Int.add_zero]
  ·simp only [e,if_false,rr]
   grind
 rw [e1,zgd,zcO,zcO,zjq _ hp,zjq _ hp,h1,h2]
 simp only [if_true,rr]
 grind
theorem Tb.exact_ (t:Tb n C A bs T d) {pl c x:Nat} (hp:pl<n) (hc:c<C) (hx:x<C) (hpos:0<T pl c) {k:Nat} (hk:k<n):rr T d pl c x k=d*wd n ((zdm n A (nb bs pl c)).set k (col n A x)):=by
 have hdep: ∀ i,i<n->(d*T pl c)*A i x=sm n fun k=>rr T d pl c x k*A i (nb bs pl c k):=fun i hi=>by
  have h1:=(t.dep x hx i hi).symm
  have h2:=(t.dep c hc i hi).symm
  have e:(sm n fun k=>rr T d pl c x k*A i (nb bs pl c k))=sm n fun k=>rr T d pl c x k*(if k=pl then A i c else A i (bs k)):=zaq fun k _=>by
   unfold nb
   split<;>rfl
  rw [e,zjx hp (ac:=A i c) (a:=0) (f:=fun k=>A i (bs k)) h1 h2]
  grind
 have e:=(zg5 n).cram zbw hk (zs5 (bs:=nb bs pl c) hdep)
 have ew:wd n (zdm n A (nb bs pl c))=T pl c:=by rw [zjw hp,t.ent hp hc]
 rw [ew] at e
 have e2:T pl c*(d*wd n ((zdm n A (nb bs pl c)).set k (col n A x)))=T pl c*rr T d pl c x k:=by
  rw [<- Int.mul_assoc,Int.mul_comm (T pl c) d,e,Int.mul_comm]
 exact (Int.eq_of_mul_eq_mul_left (by omega) e2).symm
theorem Tb.piv_at (t:Tb n C A bs T d) {pl c x:Nat} (hp:pl<n) (hc:c<C) (hx:x<C) (hpos:0<T pl c) {k:Nat} (hk:k<n):piv T d pl c k x=wd n ((zdm n A (nb bs pl c)).set k (col n A x))/\rr T d pl c x k=d*piv T d pl c k x:=by
 have e:=t.exact_ hp hc hx hpos hk
 have hd:=t.dp
 have e1:piv T d pl c k x=wd n ((zdm n A (nb bs pl c)).set k (col n A x)):=by
  unfold piv
  split
  ·rename_i z
   rw [rr,qa4 z] at e
   exact Int.eq_of_mul_eq_mul_left (by omega) e
  ·rename_i z
   rw [rr,qa5 z] at e
   rw [e,Int.mul_ediv_cancel_left _ (by omega)]
 exact ⟨e1,by rw [e1];exact e⟩
theorem Tb.piv_goal (t:Tb n C A bs T d) {pl c x:Nat} (hp:pl<n) (hc:c<C) (hx:x<C) (hpos:0<T pl c):
  piv T d pl c n x=T pl c*A n x - (sm n fun k=>piv T d pl c k x*A n (nb bs pl c k))/\T n x*T pl c - T pl x*T n c=d*piv T d pl c n x:=by
 have hd:=t.dp
 have hne: ¬n=pl:=by omega
 have h1:=t.goal x hx
 have h2:=t.goal c hc
 have e:(sm n fun k=>rr T d pl c x k*A n (nb bs pl c k))=sm n fun k=>rr T d pl c x k*(if k=pl then A n c else A n (bs k)):=zaq fun k _=>by
  unfold nb
  split<;>rfl
 have e2:=zjx (T:=T) (d:=d) (c:=c) (x:=x) hp (ac:=A n c) (a:=0) (f:=fun k=>A n (bs k)) rfl rfl
 rw [<- e] at e2
 have e3:(sm n fun k=>rr T d pl c x k*A n (nb bs pl c k))=d*sm n fun k=>piv T d pl c k x*A n (nb bs pl c k):=by
  rw [<- zcO]
  refine zaq fun k hk=> ?_
  rw [(t.piv_at hp hc hx hpos hk).2,Int.mul_assoc]
 rw [e3] at e2
 generalize (sm n fun k=>piv T d pl c k x*A n (nb bs pl c k))=W at e2 ⊢
 generalize (sm n fun k=>T k x*A n (bs k))=S at e2 h1
 generalize (sm n fun k=>T k c*A n (bs k))=Sc at e2 h2
 have key:T n x*T pl c - T pl x*T n c=d*(T pl c*A n x - W):=by grind
 have e4:piv T d pl c n x=T pl c*A n x - W:=by
  unfold piv
  rw [qa5 hne,key,Int.mul_ediv_cancel_left _ (by omega)]
 exact ⟨e4,by rw [e4];exact key⟩
theorem Tb.pivot (t:Tb n C A bs T d) {pl c:Nat} (hp:pl<n) (hc:c<C) (hpos:0<T pl c):Tb n C A (nb bs pl c) (piv T d pl c) (T pl c) where
 dp:=hpos
 dep:=fun x hx i hi=>by
  have hd:=t.dp
  have h1:=(t.dep x hx i hi).symm
  have h2:=(t.dep c hc i hi).symm
  have e:(sm n fun k=>rr T d pl c x k*A i (nb bs pl c k))=sm n fun k=>rr T d pl c x k*(if k=pl then A i c else A i (bs k)):=zaq fun k _=>by
   unfold nb
   split<;>rfl
  have e2:=zjx (T:=T) (d:=d) hp (ac:=A i c) (a:=0) (f:=fun k=>A i (bs k)) h1 h2
  rw [<- e] at e2
  have e3:(sm n fun k=>rr T d pl c x k*A i (nb bs pl c k))=d*sm n fun k=>piv T d pl c k x*A i (nb bs pl c k):=by
   rw [<- zcO]
   refine zaq fun k hk=> ?_
   rw [(t.piv_at hp hc hx hpos hk).2,Int.mul_assoc]
  rw [e3] at e2
  refine Int.eq_of_mul_eq_mul_left (show d≠0 by omega) ?_
  rw [e2]
  grind
 goal:=fun x hx=>by
  have:=(t.piv_goal hp hc hx hpos).1
  omega
 det:=by rw [zjw hp,t.ent hp hc]
 bd:=fun k hk=>by
  unfold nb
  split
  ·exact hc
  ·exact t.bd k hk
end
theorem pig: ∀ (K:Nat) (f:Nat->Nat),(∀ i,i<=K->f i<K)-> ∃ i j,i<j/\j<=K/\f i=f j
 | 0,f,h=>absurd (h 0 (qaV _)) (by omega)
 | K+1,f,h=>by
  by_cases e: ∃ i,i<=K/\f i=f (K+1)
  ·obtain ⟨i,h1,h2⟩:=e
   exact ⟨i,K+1,by omega,qaV _,h2⟩
  ·have hne: ∀ i,i<=K->f i≠f (K+1):=fun i hi z=>e ⟨i,hi,z⟩
   have hv:=h (K+1) (qaV _)
   obtain ⟨i,j,h1,h2,h3⟩:=pig K (fun i=>if f (K+1)<f i then f i - 1 else f i) fun i hi=>by
    have h4:=h i (by omega)
    have h5:=hne i hi
    show (if f (K+1)<f i then f i - 1 else f i)<K
    split<;>omega
   have h6:=hne i (by omega)
   have h7:=hne j h2
   refine ⟨i,j,h1,by omega,?_⟩
   split at h3<;>split at h3<;>omega
noncomputable def code (q:Nat) (bs:Nat->Nat):Nat->Nat
 | 0=>0
 | n+1=>code q bs n*q+bs n
theorem zkZ {q:Nat} {bs:Nat->Nat}: ∀ {n:Nat},(∀ k,k<n->bs k<q)->code q bs n<q^n
 | 0,_=>by simp [code]
 | n+1,h=>by
  have h1:=zkZ (n:=n) fun k hk=>h k (by omega)
  have h2:=h n (by omega)
  rw [code,Nat.pow_succ]
  have h3:(code q bs n+1)*q<=q^n*q:=Nat.mul_le_mul_right _ h1
  rw [Nat.add_mul] at h3
  omega
theorem zil {q:Nat} {bs bs':Nat->Nat}: ∀ {n:Nat},(∀ k,k<n->bs k<q)->(∀ k,k<n->bs' k<q)->code q bs n=code q bs' n-> ∀ k,k<n->bs k=bs' k
 | 0,_,_,_,k,hk=>by omega
 | n+1,h,h',e,k,hk=>by
  rw [code,code] at e
  have h1:=h n (by omega)
  have h2:=h' n (by omega)
  have e1:bs n=bs' n:=by
   have:=congrArg (· % q) e
   simp only [Nat.mul_add_mod_self_right,Nat.mod_eq_of_lt h1,Nat.mod_eq_of_lt h2] at this
   exact this
  have e2:code q bs n=code q bs' n:=by
   rw [e1] at e
   exact Nat.eq_of_mul_eq_mul_right (by omega) (Nat.add_right_cancel e)
  by_cases z:k=n
  ·rw [z];exact e1
  ·exact zil (fun k hk=>h k (by omega)) (fun k hk=>h' k (by omega)) e2 k (by omega)
section
variable {n:Nat} {ω:List Vc->Int}
theorem AM.comb (h:AM n ω) {l:List Vc} (hl:l.length=n) {k:Nat} (hk:k<n) {x:Vc} {d:Int} {N:Nat} {t:Nat->Int} {w:Nat->Vc} (hx:(fun i=>d*x i)=fun i=>sm N fun j=>t j*w j i):d*ω (l.set k x)=sm N fun j=>t j*ω (l.set k (w j)):=by
 have hk':k<l.length:=by omega
 have hs:(l.take k).length+(l.drop (k+1)).length+1=n:=by rw [List.length_take,List.length_drop];omega
 have e1:ω (l.take k++(fun i=>d*x i)::l.drop (k+1))=d*ω (l.set k x):=by
  have:=h.lin (l.take k) (l.drop (k+1)) (fun _=>0) x d hs
  rw [h.zero _ _ hs,Int.zero_add] at this
  rw [zdp hk', <-this]
  congr 3
  funext i
  rw [Int.zero_add]
 rw [<- e1,hx,h.sum _ _ hs]
 exact zaq fun j _=>by rw [zdp hk']
end
section
variable {n C:Nat} {A:Nat->Nat->Int} {bs bs':Nat->Nat} {T T':Nat->Nat->Int} {d d':Int}
theorem Tb.star (t:Tb n C A bs T d) (t':Tb n C A bs' T' d') {s:Nat} (hs:s<C):d*T' n s=d'*T n s+sm n fun j=>T j s*T' n (bs j):=by
 have hk: ∀ k,k<n->d*T' k s=sm n fun j=>T j s*T' k (bs j):=fun k hk=>by
  have hx:(fun i=>d*col n A s i)=fun i=>sm n fun j=>T j s*col n A (bs j) i:=by
   rw [zs5 (bs:=bs) (t.dep s hs)]
   funext i
   exact zaq fun j hj=>by rw [zhp hj]
  have e:=(zg5 n).comb (l:=zdm n A bs') zbw hk hx
  rw [t'.ent hk hs] at e
  rw [e]
  exact zaq fun j hj=>by rw [t'.ent hk (t.bd j hj)]
 have h1:=t.goal s hs
 have h2:=t'.goal s hs
 have h3:(sm n fun j=>T j s*T' n (bs j))=d'*(sm n fun j=>T j s*A n (bs j)) - sm n fun k=>(d*T' k s)*A n (bs' k):=by
  have e1:(sm n fun j=>T j s*T' n (bs j))=sm n fun j=>d'*(T j s*A n (bs j))+(-1)*(sm n fun k=>(T j s*T' k (bs j))*A n (bs' k)):=zaq fun j hj=>by
   have:=t'.goal (bs j) (t.bd j hj)
   have e2:(sm n fun k=>(T j s*T' k (bs j))*A n (bs' k))=T j s*sm n fun k=>T' k (bs j)*A n (bs' k):=by
    rw [<- zcO]
    exact zaq fun k _=>by rw [Int.mul_assoc]
   rw [e2]
   generalize (sm n fun k=>T' k (bs j)*A n (bs' k))=S at this ⊢
   have:T' n (bs j)=d'*A n (bs j) - S:=by omega
   rw [this]
   grind
  have e3:(sm n fun k=>(d*T' k s)*A n (bs' k))=sm n fun j=>sm n fun k=>(T j s*T' k (bs j))*A n (bs' k):=by
   rw [zhN (fun k j=>(T j s*T' k (bs j))*A n (bs' k))]
   refine zaq fun k hk'=> ?_
   rw [hk k hk',Int.mul_comm, <-zcO]
   exact zaq fun j _=>by rw [Int.mul_comm]
  rw [e1,zgd,zcO,zcO,e3]
  omega
 have h4:(sm n fun k=>(d*T' k s)*A n (bs' k))=d*sm n fun k=>T' k s*A n (bs' k):=by
  rw [<- zcO]
  exact zaq fun k _=>by rw [Int.mul_assoc]
 rw [h3,h4]
 generalize (sm n fun j=>T j s*A n (bs j))=X at h1 ⊢
 generalize (sm n fun k=>T' k s*A n (bs' k))=Y at h2 ⊢
 grind
end
structure Stp (n q:Nat) (bs:Nat->Nat) (T:Nat->Nat->Int) (c pl:Nat):Prop where
 c1:c<q
 c2:T n c<0
 c3: ∀ x,x<c->0<=T n x
 p1:pl<n
 p2:0<T pl c
 p3: ∀ k,k<n->0<T k c->T pl q*T k c<T k q*T pl c\/(T pl q*T k c=T k q*T pl c/\bs pl<=bs k)
structure St where
 bs:Nat->Nat
 T:Nat->Nat->Int
 d:Int
structure Run (n q:Nat) (A:Nat->Nat->Int) (L:Nat) (st:Nat->St) (c pl:Nat->Nat):Prop where
 tb: ∀ i,i<=L->Tb n (q+1) A (st i).bs (st i).T (st i).d
 vr: ∀ i,i<=L-> ∀ k,k<n->(st i).bs k<q
 fe: ∀ i,i<=L-> ∀ k,k<n->0<=(st i).T k q
 sp: ∀ i,i<L->Stp n q (st i).bs (st i).T (c i) (pl i)
 nx: ∀ i,i<L->(st (i+1)).bs=nb (st i).bs (pl i) (c i)/\(∀ k x,k<=n->x<=q->(st (i+1)).T k x=piv (st i).T (st i).d (pl i) (c i) k x)/\(st (i+1)).d=(st i).T (pl i) (c i)
section
variable {n q L:Nat} {A:Nat->Nat->Int} {st:Nat->St} {c pl:Nat->Nat}
theorem Run.grow (r:Run n q A L st c pl) {i:Nat} (hi:i<L):(st (i+1)).T n q*(st i).d=(st i).T n q*(st (i+1)).d - (st i).T (pl i) q*(st i).T n (c i):=by
 obtain ⟨_,h2,h3⟩:=r.nx i hi
 have s:=r.sp i hi
 have e:=((r.tb i (by omega)).piv_goal (x:=q) s.p1 (by have:=s.c1;omega) (by omega) s.p2).2
 rw [h2 n q (qaV _) (qaV _),h3]
 have:piv (st i).T (st i).d (pl i) (c i) n q*(st i).d=(st i).d*piv (st i).T (st i).d (pl i) (c i) n q:=Int.mul_comm _ _
 omega
theorem znC {a b c d e f:Int} (hb:0<b) (hd:0<d) (hf:0<f) (h1:a*d<=c*b) (h2:c*f<=e*d):a*f<=e*b:=by
 have h3:(a*d)*f<=(c*b)*f:=Int.mul_le_mul_of_nonneg_right h1 (by omega)
 have h4:(c*f)*b<=(e*d)*b:=Int.mul_le_mul_of_nonneg_right h2 (by omega)
 have h5:d*(a*f)<=d*(e*b):=by grind
 exact Int.le_of_mul_le_mul_left h5 hd
theorem zhc {a b c d e f:Int} (hb:0<b) (hd:0<d) (hf:0<f) (h1:a*d<c*b) (h2:c*f<=e*d):a*f<e*b:=by
 have h3:(a*d)*f<(c*b)*f:=Int.mul_lt_mul_of_pos_right h1 hf
 have h4:(c*f)*b<=(e*d)*b:=Int.mul_le_mul_of_nonneg_right h2 (by omega)
 have h5:d*(a*f)<d*(e*b):=by grind
 exact Int.lt_of_mul_lt_mul_left h5 (by omega)
theorem Run.up1 (r:Run n q A L st c pl) {i:Nat} (hi:i<L):(st i).T n q*(st (i+1)).d<=(st (i+1)).T n q*(st i).d:=by
 have e:=r.grow hi
 have s:=r.sp i hi
 have h1:=r.fe i (by omega) (pl i) s.p1
 have h2:=s.c2
 have h3:(st i).T (pl i) q*(st i).T n (c i)<=0:=Int.mul_nonpos_of_nonneg_of_nonpos h1 (by omega)
 omega
theorem Run.upl (r:Run n q A L st c pl) {i:Nat} (hi:i<L) (h:0<(st i).T (pl i) q):(st i).T n q*(st (i+1)).d<(st (i+1)).T n q*(st i).d:=by
 have e:=r.grow hi
 have s:=r.sp i hi
 have h3:(st i).T (pl i) q*(st i).T n (c i)<0:=Int.mul_neg_of_pos_of_neg h s.c2
 omega
theorem Run.upn (r:Run n q A L st c pl) {i:Nat}: ∀ (k:Nat),i+k<=L->(st i).T n q*(st (i+k)).d<=(st (i+k)).T n q*(st i).d
 | 0,_=>Int.le_refl _
 | k+1,h=>znC (r.tb i (by omega)).dp (r.tb (i+k) (by omega)).dp (r.tb (i+(k+1)) h).dp (Run.upn r k (by omega)) (r.up1 (i:=i+k) (by omega))
theorem Tb.alike {C:Nat} {bs bs':Nat->Nat} {T T':Nat->Nat->Int} {d d':Int} (t:Tb n C A bs T d) (t':Tb n C A bs' T' d') (h: ∀ k,k<n->bs k=bs' k):d=d'/\(∀ k x,k<n->x<C->T k x=T' k x)/\ ∀ x,x<C->T n x=T' n x:=by
 have e:zdm n A bs=zdm n A bs':=List.map_congr_left fun k hk=>by rw [h k (List.mem_range.mp hk)]
 have hd:d=d':=by rw [<- t.det, <-t'.det,e]
 have hT: ∀ k x,k<n->x<C->T k x=T' k x:=fun k x hk hx=>by rw [<- t.ent hk hx, <-t'.ent hk hx,e]
 refine ⟨hd,hT,fun x hx=> ?_⟩
 have h1:=t.goal x hx
 have h2:=t'.goal x hx
 have h3:(sm n fun k=>T k x*A n (bs k))=sm n fun k=>T' k x*A n (bs' k):=zaq fun k hk=>by rw [hT k x hk hx,h k hk]
 rw [hd,h3] at h1
 omega
theorem Tb.inj {C:Nat} {bs:Nat->Nat} {T:Nat->Nat->Int} {d:Int} (t:Tb n C A bs T d) {k i:Nat} (hk:k<n) (hi:i<n) (e:bs k=bs i):k=i:=by
 have h1:=t.diag hk hi
 have h2:=t.diag hk hk
 rw [<- e,h2,qa4 rfl] at h1
 have:=t.dp
 split at h1
 ·assumption
 ·omega
theorem Run.flat (r:Run n q A L st c pl) {i j:Nat} (hij:i<j) (hj:j<=L) (h: ∀ k,k<n->(st i).bs k=(st j).bs k) {l:Nat} (h1:i<=l) (h2:l<j):(st l).T (pl l) q=0:=by
 obtain ⟨hd,_,hg⟩:=(r.tb i (by omega)).alike (r.tb j hj) h
 have hz:=hg q (by omega)
 have s:=r.sp l (by omega)
 have h3:=r.fe l (by omega) (pl l) s.p1
 by_cases z:(st l).T (pl l) q=0
 ·exact z
 ·exfalso
  have a1:=r.upn (i:=i) (l - i) (by omega)
  rw [show i+(l - i)=l by omega] at a1
  have a2:=r.upl (i:=l) (by omega) (by omega)
  have a3:=r.upn (i:=l+1) (j - (l+1)) (by omega)
  rw [show l+1+(j - (l+1))=j by omega] at a3
  have b1:=zhc (r.tb l (by omega)).dp (r.tb (l+1) (by omega)).dp (r.tb j hj).dp a2 a3
  have di:=(r.tb i (by omega)).dp
  have dl:=(r.tb l (by omega)).dp
  have dj:=(r.tb j hj).dp
  have c1:((st i).T n q*(st l).d)*(st j).d<=((st l).T n q*(st i).d)*(st j).d:=Int.mul_le_mul_of_nonneg_right a1 (by omega)
  have c2:((st l).T n q*(st j).d)*(st i).d<((st j).T n q*(st l).d)*(st i).d:=Int.mul_lt_mul_of_pos_right b1 di
  rw [hz,hd] at c1
  rw [hd] at c2
  generalize (st j).d=D at c1 c2
  generalize (st l).d=E at c1 c2
  generalize (st j).T n q=X at c1 c2
  generalize (st l).T n q=Y at c1 c2
  grind
def zr (n q:Nat) (s:St) (v:Nat):Prop:= ∀ k,k<n->s.bs k=v->s.T k q=0
theorem Run.zr1 (r:Run n q A L st c pl) {l:Nat} (hl:l<L) (h0:(st l).T (pl l) q=0) (v:Nat):zr n q (st l) v↔zr n q (st (l+1)) v:=by
 obtain ⟨e1,e2,e3⟩:=r.nx l hl
 have s:=r.sp l hl
 have t:=r.tb l (by omega)
 have hk: ∀ k,k<n->k≠pl l->((st l).T k q=0↔(st (l+1)).T k q=0):=fun k hk hne=>by
  have e:=(t.piv_at (x:=q) s.p1 (by have:=s.c1;omega) (by omega) s.p2 hk).2
  rw [rr,qa5 hne,h0,Int.zero_mul,Int.sub_zero, <-e2 k q (by omega) (qaV _)] at e
  have hp:=s.p2
  have hd:=t.dp
  constructor
  ·intro z
   rw [z,Int.zero_mul] at e
   rcases Int.mul_eq_zero.mp e.symm with z | z
   ·omega
   ·exact z
  ·intro z
   rw [z,Int.mul_zero] at e
   rcases Int.mul_eq_zero.mp e with z | z
   ·exact z
   ·omega
 have hpl:(st (l+1)).T (pl l) q=0:=by
  rw [e2 (pl l) q (by have:=s.p1;omega) (qaV _),piv,qa4 rfl]
  exact h0
 constructor
 ·intro h k hk' hb
  by_cases z:k=pl l
  ·rw [z];exact hpl
  ·rw [e1,nb,qa5 z] at hb
   exact (hk k hk' z).mp (h k hk' hb)
 ·intro h k hk' hb
  by_cases z:k=pl l
  ·rw [z];exact h0
  ·refine (hk k hk' z).mpr (h k hk' ?_)
   rw [e1,nb,qa5 z]
   exact hb
theorem Run.zrn (r:Run n q A L st c pl) {i j:Nat} (hj:j<=L) (h0: ∀ l,i<=l->l<j->(st l).T (pl l) q=0) (v:Nat): ∀ (k:Nat),i+k<=j->(zr n q (st i) v↔zr n q (st (i+k)) v)
 | 0,_=>Iff.rfl
 | k+1,h=>(Run.zrn r hj h0 v k (by omega)).trans (r.zr1 (l:=i+k) (by omega) (h0 _ (by omega) (by omega)) v)
def bsc (n:Nat) (s:St) (v:Nat):Prop:= ∃ k,k<n/\s.bs k=v
theorem Run.nbs (r:Run n q A L st c pl) {l:Nat} (hl:l<L): ¬bsc n (st l) (c l):=fun ⟨k,hk,e⟩=>by
 have:=(r.tb l (by omega)).goal0 hk
 rw [e] at this
 have:=(r.sp l hl).c2
 omega
theorem Run.bsc1 (r:Run n q A L st c pl) {l:Nat} (hl:l<L) (v:Nat):bsc n (st (l+1)) v↔(bsc n (st l) v/\v≠(st l).bs (pl l))\/v=c l:=by
 obtain ⟨e1,_,_⟩:=r.nx l hl
 have s:=r.sp l hl
 have t:=r.tb l (by omega)
 unfold bsc
 rw [e1]
 constructor
 ·rintro ⟨k,hk,e⟩
  unfold nb at e
  split at e
  ·exact .inr e.symm
  ·rename_i hne
   exact .inl ⟨⟨k,hk,e⟩,fun z=>hne (t.inj hk s.p1 (e.trans z))⟩
 ·rintro (⟨⟨k,hk,e⟩,hne⟩ | e)
  ·refine ⟨k,hk,?_⟩
   unfold nb
   rw [qa5 fun z=>hne (by rw [<- e,z])]
   exact e
  ·exact ⟨pl l,s.p1,by unfold nb;rw [qa4 rfl];exact e.symm⟩
theorem Run.become (r:Run n q A L st c pl) {v i:Nat} (h: ¬bsc n (st i) v): ∀ (k:Nat),i+k<=L->bsc n (st (i+k)) v-> ∃ l,i<=l/\l<i+k/\c l=v
 | 0,_,hb=>absurd hb h
 | k+1,hl,hb=>by
  by_cases z:bsc n (st (i+k)) v
  ·obtain ⟨l,h1,h2,h3⟩:=Run.become r h k (by omega) z
   exact ⟨l,h1,by omega,h3⟩
  ·rcases (r.bsc1 (l:=i+k) (by omega) v).mp hb with ⟨y,_⟩ | y
   ·exact absurd y z
   ·exact ⟨i+k,by omega,by omega,y.symm⟩
theorem Run.leave (r:Run n q A L st c pl) {v i:Nat} (h:bsc n (st i) v): ∀ (k:Nat),i+k<=L-> ¬bsc n (st (i+k)) v-> ∃ l,i<=l/\l<i+k/\(st l).bs (pl l)=v
 | 0,_,hb=>absurd h hb
 | k+1,hl,hb=>by
  by_cases z:bsc n (st (i+k)) v
  ·by_cases y:v=(st (i+k)).bs (pl (i+k))
   ·exact ⟨i+k,by omega,by omega,y.symm⟩
   ·exact absurd ((r.bsc1 (l:=i+k) (by omega) v).mpr (.inl ⟨z,y⟩)) hb
  ·obtain ⟨l,h1,h2,h3⟩:=Run.leave r h k (by omega) z
   exact ⟨l,h1,by omega,h3⟩
theorem zmP (f:Nat->Nat) {i:Nat}: ∀ (k:Nat), ∃ l,i<=l/\l<=i+k/\ ∀ x,i<=x->x<=i+k->f x<=f l
 | 0=>⟨i,qaV _,qaV _,fun x h1 h2=>by rw [show x=i by omega];exact qaV _⟩
 | k+1=>by
  obtain ⟨l,h1,h2,h3⟩:=zmP f (i:=i) k
  by_cases z:f l<=f (i+(k+1))
  ·refine ⟨i+(k+1),by omega,qaV _,fun x a b=> ?_⟩
   by_cases y:x=i+(k+1)
   ·rw [y];exact qaV _
   ·exact qaS (h3 x a (by omega)) z
  ·refine ⟨l,h1,by omega,fun x a b=> ?_⟩
   by_cases y:x=i+(k+1)
   ·rw [y];omega
   ·exact h3 x a (by omega)
theorem zjB {f:Nat->Int}: ∀ {n:Nat},0<sm n f-> ∃ k,k<n/\0<f k
 | 0,h=>absurd h (by rw [sm];omega)
 | n+1,h=>by
  rw [sm] at h
  by_cases z:0<f n
  ·exact ⟨n,by omega,z⟩
  ·obtain ⟨k,hk,e⟩:=zjB (n:=n) (show 0<sm n f by omega)
   exact ⟨k,by omega,e⟩
theorem Run.once (r:Run n q A L st c pl) {i j:Nat} (hij:i<j) (hj:j<=L) (h: ∀ k,k<n->(st i).bs k=(st j).bs k):False:=by
 have hfl:=fun l h1 h2=>r.flat hij hj h (l:=l) h1 h2
 have hbb: ∀ v,bsc n (st i) v↔bsc n (st j) v:=fun v=>⟨fun ⟨k,hk,e⟩=>⟨k,hk,(h k hk).symm.trans e⟩,fun ⟨k,hk,e⟩=>⟨k,hk,(h k hk).trans e⟩⟩
 obtain ⟨ls,s1,s2,s3⟩:=zmP c (i:=i) (j - 1 - i)
 have s2:ls<j:=by omega
 have s3: ∀ x,i<=x->x<j->c x<=c ls:=fun x a b=>s3 x a (by omega)
 have hn:=r.nbs (l:=ls) (by omega)
 obtain ⟨l,l1,l2,l3⟩: ∃ l,i<=l/\l<j/\(st l).bs (pl l)=c ls:=by
  by_cases z:bsc n (st i) (c ls)
  ·have hlt:i<ls:=by
    rcases Nat.lt_or_ge i ls with y | y
    ·exact y
    ·have:i=ls:=by omega
     rw [this] at z
     exact absurd z hn
   obtain ⟨l,a,b,e⟩:=r.leave z (ls - i) (by omega) (by rw [show i+(ls - i)=ls by omega];exact hn)
   exact ⟨l,a,by omega,e⟩
  ·have hb:bsc n (st (ls+1)) (c ls):=(r.bsc1 (l:=ls) (by omega) _).mpr (.inr rfl)
   have hz: ¬bsc n (st j) (c ls):=fun y=>z ((hbb _).mpr y)
   have hlt:ls+1<j:=by
    rcases Nat.lt_or_ge (ls+1) j with y | y
    ·exact y
    ·have:ls+1=j:=by omega
     rw [this] at hb
     exact absurd hb hz
   obtain ⟨l,a,b,e⟩:=r.leave hb (j - (ls+1)) (by omega) (by rw [show ls+1+(j - (ls+1))=j by omega];exact hz)
   exact ⟨l,by omega,by omega,e⟩
 have sl:=r.sp l (by omega)
 have ss:=r.sp ls (by omega)
 have tl:=r.tb l (by omega)
 have ts:=r.tb ls (by omega)
 have hq:=sl.c1
 have star:=tl.star ts (s:=c l) (by omega)
 have hsle:=s3 l l1 l2
 have hsne:c l≠c ls:=fun e=>r.nbs (l:=l) (by omega) ⟨pl l,sl.p1,by rw [l3,e]⟩
 have hs0:=ss.c3 (c l) (by omega)
 have hd1:=tl.dp
 have hd2:=ts.dp
 have a1:0<=(st l).d*(st ls).T n (c l):=Int.mul_nonneg (by omega) hs0
 have a2:(st ls).d*(st l).T n (c l)<0:=Int.mul_neg_of_pos_of_neg hd2 sl.c2
 obtain ⟨k,hk,hpos⟩:=zjB (show 0<sm n fun j=>(st l).T j (c l)*(st ls).T n ((st l).bs j) by omega)
 have hpos:0<(st l).T k (c l)*(st ls).T n ((st l).bs k):=hpos
 have hbk:bsc n (st l) ((st l).bs k):=⟨k,hk,rfl⟩
 by_cases hr:(st l).bs k=c ls
 ·have:k=pl l:=tl.inj hk sl.p1 (hr.trans l3.symm)
  rw [hr,this] at hpos
  have:=Int.mul_neg_of_pos_of_neg sl.p2 ss.c2
  omega
 ·have hnb: ¬bsc n (st ls) ((st l).bs k):=fun ⟨k',hk',e⟩=>by
   have:=ts.goal0 hk'
   rw [e] at this
   rw [this,Int.mul_zero] at hpos
   omega
  obtain ⟨x,x1,x2,x3⟩: ∃ x,i<=x/\x<j/\c x=(st l).bs k:=by
   by_cases z:bsc n (st i) ((st l).bs k)
   ·obtain ⟨x,a,b,e⟩:=r.become hnb (j - ls) (by omega) (by rw [show ls+(j - ls)=j by omega];exact (hbb _).mp z)
    exact ⟨x,by omega,by omega,e⟩
   ·obtain ⟨x,a,b,e⟩:=r.become z (l - i) (by omega) (by rw [show i+(l - i)=l by omega];exact hbk)
    exact ⟨x,a,by omega,e⟩
  have hrl:=s3 x x1 x2
  rw [x3] at hrl
  have hr0:=ss.c3 ((st l).bs k) (by omega)
  have hT:0<(st l).T k (c l):=by
   rcases Int.lt_or_le 0 ((st l).T k (c l)) with y | y
   ·exact y
   ·have:=Int.mul_nonpos_of_nonpos_of_nonneg y hr0
    omega
  have hz:zr n q (st l) ((st l).bs k):=by
   have hz0:zr n q (st ls) ((st l).bs k):=fun k' hk' e=>absurd ⟨k',hk',e⟩ hnb
   have e1:=r.zrn hj hfl ((st l).bs k) (ls - i) (by omega)
   have e2:=r.zrn hj hfl ((st l).bs k) (l - i) (by omega)
   rw [show i+(ls - i)=ls by omega] at e1
   rw [show i+(l - i)=l by omega] at e2
   exact e2.mp (e1.mpr hz0)
  have hk0:=hz k hk rfl
  have hp0:=hfl l l1 l2
  rcases sl.p3 k hk hT with y | ⟨_,y⟩
  ·rw [hk0,hp0,Int.zero_mul,Int.zero_mul] at y
   omega
  ·omega
theorem Run.short (r:Run n q A L st c pl):L<q^n:=by
 rcases Nat.lt_or_ge L (q^n) with h | h
 ·exact h
 ·exfalso
  obtain ⟨i,j,h1,h2,h3⟩:=pig (q^n) (fun i=>code q (st i).bs n) fun i hi=>zkZ (r.vr i (by omega))
  exact r.once h1 (by omega) (zil (r.vr i (by omega)) (r.vr j (by omega)) h3)
end
theorem zrs: ∀ n,sg n*sg n=1
 | 0=>rfl
 | n+1=>by rw [sg,Int.neg_mul_neg];exact zrs n
theorem zjZ {ω:List Vc->Int} {φ:Vc->Int} (w:Vc): ∀ (vs pre:List Vc) (s:Int),(∀ v∈vs,φ v=0)->al ω φ pre (vs++[w]) s=s*sg vs.length*φ w*ω (pre++vs)
 | [],pre,s,_=>by simp [al,sg]
 | v::r,pre,s,h=>by
  have ih:=zjZ (ω:=ω) (φ:=φ) w r (pre++[v]) (-s) fun x hx=>h x (qan _ hx)
  rw [List.cons_append,al,ih,h v qau,qaE,sg]
  simp only [List.append_assoc,List.cons_append,List.nil_append]
  grind
noncomputable def un (k:Nat):Vc:=fun i=>if i=k then 1 else 0
theorem zru: ∀ n,wd n ((List.range n).map un)=1
 | 0=>rfl
 | n+1=>by
  rw [List.range_succ,List.map_append,List.map_singleton,wd,zjZ _ _ _ _ fun v hv=> ?_]
  ·rw [List.nil_append,zru n,qaH,List.length_range]
   have:un n n=1:=qa4 rfl
   rw [this,zrs]
   rfl
  ·obtain ⟨k,hk,rfl⟩:=qaU.mp hv
   have:=List.mem_range.mp hk
   show (if n=k then (1:Int) else 0)=0
   rw [qa5 (by omega)]
theorem zqx {ω:List Vc->Int} {φ:Vc->Int} {W K:Nat}: ∀ (vs pre:List Vc) (s:Int),s.natAbs<=1->(∀ v∈vs,(φ v).natAbs<=K)->(∀ p r,(∃ v,pre++vs=p++v::r)->(ω (p++r)).natAbs<=W)->(al ω φ pre vs s).natAbs<=vs.length*(K*W)
 | [],pre,s,_,_,_=>by simp [al]
 | v::r,pre,s,hs,hK,hW=>by
  have ih:=zqx (ω:=ω) (φ:=φ) (W:=W) (K:=K) r (pre++[v]) (-s) (by omega) (fun x hx=>hK x (qan _ hx)) fun p r' ⟨x,e⟩=>hW p r' ⟨x,by rw [<- e];simp⟩
  have h1:=hW pre r ⟨v,rfl⟩
  have h2:=hK v qau
  have h3:(s*φ v*ω (pre++r)).natAbs<=K*W:=by
   rw [Int.natAbs_mul,Int.natAbs_mul]
   have:s.natAbs*(φ v).natAbs<=1*K:=Nat.mul_le_mul hs h2
   rw [Nat.one_mul] at this
   exact Nat.mul_le_mul this h1
  rw [al,qaE,Nat.add_mul,Nat.one_mul]
  have:=Int.natAbs_add_le (s*φ v*ω (pre++r)) (al ω φ (pre++[v]) r (-s))
  omega
theorem zmO: ∀ n,(sg n).natAbs<=1
 | 0=>by decide
 | n+1=>by rw [sg,Int.natAbs_neg];exact zmO n
noncomputable def wb (K:Nat):Nat->Nat
 | 0=>1
 | n+1=>(n+1)*(K*wb K n)
theorem zoi {K:Nat}: ∀ (n:Nat) (l:List Vc),l.length=n->(∀ v∈l, ∀ i,(v i).natAbs<=K)->(wd n l).natAbs<=wb K n
 | 0,l,_,_=>by simp [wd,wb]
 | n+1,l,hl,h=>by
  have:=zqx (ω:=wd n) (φ:=fun v=>v n) (W:=wb K n) (K:=K) l [] (sg n) (zmO n) (fun v hv=>h v hv n) fun p r ⟨v,e⟩=>by
   rw [List.nil_append] at e
   refine zoi n (p++r) ?_ fun x hx=>h x ?_
   ·have:=congrArg List.length e
    simp at this ⊢
    omega
   ·rw [e]
    rcases qaK.mp hx with z | z
    ·exact List.mem_append_left _ z
    ·exact qak _ (qan _ z)
  rw [hl] at this
  exact this
structure LP (n m:Nat) (A:Nat->Nat->Int):Prop where
 nn: ∀ i,i<n-> ∀ t,t<m->0<=A i t
 sl: ∀ i,i<n-> ∀ j,j<n->A i (m+j)=if i=j then 1 else 0
 g1: ∀ t,t<m->A n t= -1
 g0: ∀ j,j<n->A n (m+j)=0
 gq:A n (m+n)=0
 ful: ∀ t,t<m-> ∃ i,i<n/\0<A i t
 rhs: ∀ i,i<n->0<=A i (m+n)
section
variable {n m:Nat} {A:Nat->Nat->Int}
theorem zhm {f:Nat->Int} {i:Nat} (hi:i<n):(sm n fun k=>f k*(if i=k then 1 else 0))=f i:=by
 rw [zhf _ hi,qa4 rfl,Int.mul_one]
 have:sm n (fun k=>if k=i then 0 else f k*(if i=k then 1 else 0))=0:=by
  refine Eq.trans (zaq (g:=fun _=>0) fun k _=> ?_) (zbN n)
  split
  ·rfl
  ·rename_i h
   rw [qa5 fun z=>h z.symm,Int.mul_zero]
 rw [this,Int.add_zero]
theorem LP.first (p:LP n m A):Tb n (m+n+1) A (fun k=>m+k) A 1 where
 dp:=by decide
 dep:=fun c _ i hi=>by
  rw [Int.one_mul,zaq (g:=fun k=>A k c*(if i=k then 1 else 0)) fun k hk=>by rw [p.sl i hi k hk]]
  exact (zhm (f:=fun k=>A k c) hi).symm
 goal:=fun c _=>by
  have:(sm n fun k=>A k c*A n (m+k))=0:=by
   refine Eq.trans (zaq (g:=fun _=>0) fun k hk=> ?_) (zbN n)
   rw [p.g0 k hk,Int.mul_zero]
  rw [this,Int.one_mul,Int.zero_add]
 det:=by
  have:zdm n A (fun k=>m+k)=(List.range n).map un:=List.map_congr_left fun k hk=>by
   have hk:=List.mem_range.mp hk
   funext i
   unfold col un
   by_cases hi:i<n
   ·rw [qa4 hi,p.sl i hi k hk]
   ·rw [qa5 hi,qa5 (by omega)]
  rw [this]
  exact zru n
 bd:=fun k hk=>by omega
theorem LP.nnx (p:LP n m A) {i:Nat} (hi:i<n) {x:Nat} (hx:x<m+n):0<=A i x:=by
 by_cases h:x<m
 ·exact p.nn i hi x h
 ·have e:=p.sl i hi (x - m) (by omega)
  rw [show m+(x - m)=x by omega] at e
  rw [e]
  split<;>decide
theorem LP.gx (p:LP n m A) {x:Nat} (hx:x<m+n):A n x<=0/\(A n x<0->x<m):=by
 by_cases h:x<m
 ·have:=p.g1 x h
  exact ⟨by omega,fun _=>h⟩
 ·have e:=p.g0 (x - m) (by omega)
  rw [show m+(x - m)=x by omega] at e
  exact ⟨by omega,fun z=>by omega⟩
variable {bs:Nat->Nat} {T:Nat->Nat->Int} {d:Int}
theorem LP.ray (p:LP n m A) (t:Tb n (m+n+1) A bs T d) (hb: ∀ k,k<n->bs k<m+n) {c:Nat} (hc:c<m+n) (hn:T n c<0): ∃ k,k<n/\0<T k c:=by
 apply Classical.byContradiction
 intro hno
 have hle: ∀ k,k<n->T k c<=0:=fun k hk=>by
  rcases Int.lt_or_le 0 (T k c) with z | z
  ·exact absurd ⟨k,hk,z⟩ hno
  ·exact z
 have hd:=t.dp
 have hrow: ∀ i,i<n->A i c=0/\ ∀ k,k<n->T k c*A i (bs k)=0:=fun i hi=>by
  have e:=t.dep c (by omega) i hi
  have h1:0<=d*A i c:=Int.mul_nonneg (by omega) (p.nnx hi hc)
  have h2: ∀ k,k<n->T k c*A i (bs k)<=0:=fun k hk=>Int.mul_nonpos_of_nonpos_of_nonneg (hle k hk) (p.nnx hi (hb k hk))
  have h3:(sm n fun k=>T k c*A i (bs k))<=0:=by
   have:=zop (g:=fun _=>0) h2
   rw [zbN] at this
   exact this
  refine ⟨?_,fun k hk=> ?_⟩
  ·have:d*A i c=0:=by omega
   rcases Int.mul_eq_zero.mp this with z | z
   ·omega
   ·exact z
  ·have h4:=zhf (fun k=>T k c*A i (bs k)) hk
   have h5:sm n (fun j=>if j=k then 0 else T j c*A i (bs j))<=0:=by
    have:=zop (f:=fun j=>if j=k then 0 else T j c*A i (bs j)) (g:=fun _=>0) (n:=n) fun j hj=>by
     show (if j=k then 0 else T j c*A i (bs j))<=0
     split
     ·exact Int.le_refl _
     ·exact h2 j hj
    rw [zbN] at this
    exact this
   have:=h2 k hk
   omega
 have hg:=t.goal c (by omega)
 by_cases hac:A n c<0
 ·have hcm:=(p.gx hc).2 hac
  obtain ⟨i,hi,hpos⟩:=p.ful c hcm
  have:=(hrow i hi).1
  omega
 ·have hac0:A n c=0:=by have:=(p.gx hc).1;omega
  rw [hac0,Int.mul_zero] at hg
  obtain ⟨k,hk,hpos⟩:=zjB (f:=fun k=>T k c*A n (bs k)) (n:=n) (by omega)
  have hpos:0<T k c*A n (bs k):=hpos
  have hT:=hle k hk
  have hTn:T k c≠0:=fun z=>by rw [z,Int.zero_mul] at hpos;omega
  have hAn:A n (bs k)≠0:=fun z=>by rw [z,Int.mul_zero] at hpos;omega
  have hbm:=(p.gx (hb k hk)).2 (by have:=(p.gx (hb k hk)).1;omega)
  obtain ⟨i,hi,hpi⟩:=p.ful (bs k) hbm
  rcases Int.mul_eq_zero.mp ((hrow i hi).2 k hk) with z | z
  ·exact hTn z
  ·omega
noncomputable def yv (n q:Nat) (bs:Nat->Nat) (T:Nat->Nat->Int) (x:Nat):Int:=sm n fun k=>if bs k=x then T k q else 0
theorem zro {q:Nat} (hb: ∀ k,k<n->bs k<q) (f:Nat->Int):(sm n fun k=>T k q*f (bs k))=sm q fun x=>f x*yv n q bs T x:=by
 have e:(sm q fun x=>f x*yv n q bs T x)=sm q fun x=>sm n fun k=>f x*(if bs k=x then T k q else 0):=zaq fun x _=>by unfold yv;rw [zcO]
 rw [e,zhN (fun k x=>f x*(if bs k=x then T k q else 0))]
 refine zaq fun k hk=> ?_
 have e2:(sm q fun x=>f x*(if bs k=x then T k q else 0))=sm q fun x=>(T k q*f x)*(if bs k=x then 1 else 0):=zaq fun x _=>by
  split
  ·rw [Int.mul_one,Int.mul_comm]
  ·rw [Int.mul_zero,Int.mul_zero]
 rw [e2,zhm (n:=q) (f:=fun x=>T k q*f x) (hb k hk)]
theorem zfy (f:Nat->Int) (m:Nat): ∀ n,sm (m+n) f=sm m f+sm n fun j=>f (m+j)
 | 0=>by rw [Nat.add_zero,sm,Int.add_zero]
 | n+1=>by rw [<- Nat.add_assoc,sm,zfy f m n,sm];omega
theorem zun {q:Nat} (hf: ∀ k,k<n->0<=T k q) (x:Nat):0<=yv n q bs T x:=zpl fun k hk=>by
 split
 ·exact hf k hk
 ·exact Int.le_refl _
theorem LP.done (p:LP n m A) (t:Tb n (m+n+1) A bs T d) (hb: ∀ k,k<n->bs k<m+n) (hf: ∀ k,k<n->0<=T k (m+n)) (hg: ∀ c,c<m+n->0<=T n c):
  (∀ i,i<n->(sm m fun x=>A i x*yv n (m+n) bs T x)<=d*A i (m+n))/\(sm m fun x=>yv n (m+n) bs T x)=T n (m+n)/\
  (∀ x,x<m->d<=sm n fun i=>A i x*T n (m+i))/\(sm n fun i=>A i (m+n)*T n (m+i))=T n (m+n):=by
 have star:=fun s hs=>p.first.star t (s:=s) hs
 refine ⟨fun i hi=> ?_,?_,fun x hx=> ?_,?_⟩
 ·have e:=t.dep (m+n) (by omega) i hi
  rw [zro hb (fun x=>A i x),zfy] at e
  have h1:0<=sm n fun j=>A i (m+j)*yv n (m+n) bs T (m+j):=zpl fun j hj=>Int.mul_nonneg (p.nnx hi (by omega)) (zun hf _)
  omega
 ·have e:=t.goal (m+n) (by omega)
  rw [p.gq,Int.mul_zero,zro hb (fun x=>A n x),zfy] at e
  have h1:(sm n fun j=>A n (m+j)*yv n (m+n) bs T (m+j))=0:=by
   refine Eq.trans (zaq (g:=fun _=>0) fun j hj=> ?_) (zbN n)
   rw [p.g0 j hj,Int.zero_mul]
  have h2:(sm m fun x=>A n x*yv n (m+n) bs T x)=(-1)*sm m fun x=>yv n (m+n) bs T x:=by
   rw [<- zcO]
   exact zaq fun x hx=>by rw [p.g1 x hx]
  rw [h1,h2] at e
  omega
 ·have e:=star x (by omega)
  rw [p.g1 x hx,Int.one_mul] at e
  have:=hg x (by omega)
  omega
 ·have e:=star (m+n) (by omega)
  rw [p.gq,Int.one_mul,Int.mul_zero,Int.zero_add] at e
  exact e.symm
theorem zuY (t:Tb n (m+n+1) A bs T d) (hf: ∀ k,k<n->0<=T k (m+n)) {c pl:Nat} (s:Stp n (m+n) bs T c pl): ∀ k,k<n->0<=piv T d pl c k (m+n):=fun k hk=>by
 have hc:=s.c1
 have hd:=t.dp
 have e:=(t.piv_at (x:=m+n) s.p1 (by omega) (by omega) s.p2 hk).2
 by_cases z:k=pl
 ·rw [piv,qa4 z]
  exact hf pl s.p1
 ·rw [rr,qa5 z] at e
  have h1:0<=T k (m+n)*T pl c - T pl (m+n)*T k c:=by
   have hp:=s.p2
   rcases Int.lt_or_le 0 (T k c) with y | y
   ·rcases s.p3 k hk y with w | ⟨w,_⟩<;>omega
   ·have a1:0<=T k (m+n)*T pl c:=Int.mul_nonneg (hf k hk) (by omega)
    have a2:T pl (m+n)*T k c<=0:=Int.mul_nonpos_of_nonneg_of_nonpos (hf pl s.p1) y
    omega
  rw [e] at h1
  rcases Int.lt_or_le (piv T d pl c k (m+n)) 0 with y | y
  ·have:=Int.mul_neg_of_pos_of_neg hd y
   omega
  ·exact y
end
end SX
namespace L3
open PySem PySem.Spec PyProof.Rows L2 LT
def Gro (h h':Hh):Prop:= ∃ t,h'=h++t
theorem Gro.refl {h:Hh}:Gro h h:=⟨[],by simp⟩
theorem Gro.trans {h h1 h2:Hh} (a:Gro h h1) (b:Gro h1 h2):Gro h h2:=by
 obtain ⟨t,rfl⟩:=a
 obtain ⟨u,rfl⟩:=b
 exact ⟨t++u,by simp⟩
theorem Gro.get {h h':Hh} {n:Nat} {c:C} (g:Gro h h') (e:h[n]? = some c):h'[n]? = some c:=by
 obtain ⟨t,rfl⟩:=g
 rw [qad (qac.mp e).1]
 exact e
theorem Gro.ext {b:Nat} {h h':Hh} (q:Bx b h) (g:Gro h h'):Ext b h h':=by
 obtain ⟨z,e⟩:=q
 exact ⟨⟨z,g.get e⟩,fun n c _ e=>g.get e⟩
def Ev {α:Type} (m:M α) (a:α):Prop:= ∀ h, ∃ h',m h= .ok a h'/\Gro h h'
section
variable {α β:Type} {m:M α} {a:α} {f:α->M β} {b:β} {h:Hh} {P:α->Hh->Prop}
theorem Ev.pure:Ev (Pure.pure a:M α) a:=fun h=>⟨h,rfl,.refl⟩
theorem Ev.of (e:m=Pure.pure a):Ev m a:=e▸ .pure
theorem Ev.bind (x:Ev m a) (y:Ev (f a) b):Ev (m>>=f) b:=fun h=>by
 obtain ⟨h1,e1,g1⟩:=x h
 obtain ⟨h2,e2,g2⟩:=y h1
 refine ⟨h2,?_,g1.trans g2⟩
 show M.bind m f h=_
 unfold M.bind
 rw [e1]
 exact e2
theorem Ev.wp (x:Ev m a) (k: ∀ h',Gro h h'->P a h'):wp m h P:=by
 obtain ⟨h1,e1,g1⟩:=x h
 exact ⟨a,h1,e1,k h1 g1⟩
theorem Ev.of_wp (x: ∀ h,L3.wp m h fun r h'=>r=a/\Gro h h'):Ev m a:=fun h=>by
 obtain ⟨r,h1,e1,rfl,g⟩:=x h
 exact ⟨h1,e1,g⟩
theorem Ev.noX (x:Ev m a):Ev (L3.noX m) a:=fun h=>by
 obtain ⟨h1,e1,g1⟩:=x h
 refine ⟨h1,?_,g1⟩
 unfold L3.noX
 rw [e1]
end
@[simp] theorem zmq {α:Type} {a:α}:noX (pure a:M α)=pure a:=rfl
theorem znt {α:Type} {m:M α} {h:Hh} {P:α->Hh->Prop} (q:wp m h P):wp (noX m) h P:=by
 obtain ⟨a,h',e,q⟩:=q
 refine ⟨a,h',?_,q⟩
 unfold noX
 rw [e]
noncomputable def zik {α:Type} (c:String):M α:=fun h=> .exc c h
@[simp] theorem ziL {α β:Type} {c:String} {f:α->M β}:((zik c:M α)>>=f)=zik c:=rfl
@[simp] theorem zl8 {c:String} {sd:Sd}:zh9 c sd=zik c:=rfl
theorem zoy {names:List String} {gb:FS} {F:List D->M D} {sd:Sd} {o:Out} (x:Ev (gb sd) o):Ev (zhu names gb F sd) o:=fun h=>by
 obtain ⟨h1,e1,g1⟩:=x h
 refine ⟨h1,?_,g1⟩
 unfold zhu
 rw [e1]
theorem zrL {n:Nat} {Fs:List (List D->M D)} {fi:FE} {fs:FA} {sd:Sd}:ztv n Fs fi fs sd=(do let i<-fi sd;let F<-zsa Fs i;let ds<-fs sd;zay n F ds):=rfl
noncomputable def tI (xs:List Int):D:= .tup (xs.map D.int)
noncomputable def zb8 (o:List Int×Int):D:= .tup [tI o.1,.int o.2]
noncomputable def zca (m:Int) (os:List (List Int×Int)):D:= .tup [.int m,.tup (os.map zb8)]
structure Stk (m:Int) (os:List (List Int×Int)):Prop where
 m0:1<=m
 m1:m<=10
 len:os.length<=12
 up: ∀ o∈os,o.1.Pairwise (· < ·)
 bd: ∀ o∈os, ∀ x∈o.1,0<=x/\x<m
 ne: ∀ o∈os,o.1≠[]
 pos: ∀ o∈os,0<o.2
theorem Stk.olen {m:Int} {os:List (List Int×Int)} (s:Stk m os): ∀ o∈os,o.1.length<=10:=fun o ho=>by
 have h:=zek (m:=m) (ts:=o.1.map D.int) (l:=0) (zbK.mpr ⟨s.up o ho,fun x hx=>s.bd o ho x hx⟩) (by have:=s.m0;omega)
 rw [qaH] at h
 have:=s.m1
 omega
theorem zjL {fo fe:FE} {sd:Sd}:zg6 fo fe sd=(do let x<-fo sd;zd7 x;let y<-fe sd;zdj x y):=rfl
theorem zoM {n:Nat}:zd7 (.cel n)=(do let _<-zao n;pure ()):=rfl
theorem zlK {n:Nat} {zs:List D}:zdj (.cel n) (.tup zs)=(do let ds<-zao n;fits (ds.length+zs.length);zbE n (ds++zs);pure .non):=rfl
theorem znh {xs:List Int} {m:Int} (m0:0<=m) (h:xs.Pairwise (· < ·)) (b: ∀ x∈xs,0<=x/\x<m):(xs.length:Int)<=m:=by
 have:=zek (m:=m) (ts:=xs.map D.int) (l:=0) (zbK.mpr ⟨h,b⟩) m0
 rw [qaH] at this
 omega
theorem zls {xs:List Int} {m:Int} (m0:0<=m) (b: ∀ x∈xs,0<=x/\x<m):((zeV xs).length:Int)<=m:=znh m0 (zeM xs) fun x hx=>b x (zc0.mp hx)
theorem zg8 {xs:List Int} {m:Int} (m0:0<=m) (m1:m<=60) (b: ∀ x∈xs,0<=x/\x<m):(xs.foldl step_dedup []).length<64:=by
 have h:=zls m0 b
 unfold zeV at h
 rw [(zaD _).length_eq] at h
 omega
theorem zgl {n:Nat} {h:Hh} {xs:List Int} {P:D->Hh->Prop} (e:h[n]? = some (.lst (xs.map D.int))) (h1:(xs.foldl step_dedup []).length<64) (h2:xs.length<4000) (k:P (.lst ((zeV xs).map D.int)) h):wp (zbW (.cel n)) h P:=by
 unfold zbW
 show wp (zao n>>=_) h P
 rw [zam,zbV e]
 show wp (do let ns<-ofO (zdU (xs.map D.int));if (ns.foldl step_dedup []).length<64/\ns.length<4000 then pure (.lst ((zeV ns).map D.int)) else M.bad:M D) h P
 rw [zbY]
 show wp (if (xs.foldl step_dedup []).length<64/\xs.length<4000 then (pure (.lst ((zeV xs).map D.int)):M D) else M.bad) h P
 rw [qa4 ⟨h1,h2⟩,zan]
 exact k
theorem zrA: ∀ {xs ys:List Int},xs.Pairwise (· < ·)->ys.Pairwise (· < ·)->(∀ k,k∈xs↔k∈ys)->xs=ys:=by
 intro xs ys hx hy hm
 have nx:xs.Nodup:=hx.imp fun z=>by omega
 have ny:ys.Nodup:=hy.imp fun z=>by omega
 have p:List.Perm xs ys:=(List.perm_ext_iff_of_nodup nx ny).mpr hm
 exact (zej p (hx.imp fun z=>by omega)).trans (zej (List.Perm.refl ys) (hy.imp fun z=>by omega)).symm
theorem zqk {x y:D} {a b:PyData} (e1:pd x=some a) (e2:pd y=some b) (h:zf4 a b=true):dEq x y=pure (.bl (PyData.eqv a b)):=by
 show zja false x y=_
 unfold zja
 rw [e1,e2]
 simp only [h,if_true]
 rfl
theorem zjP (xs:List Int):pd (tI xs)=some (.tuple (xs.map PyData.int)):=by unfold tI pd;rw [zep];rfl
theorem zrU (xs ys:List Int):dEq (tI xs) (tI ys)=pure (.bl (xs==ys)):=by
 rw [zqk (zjP xs) (zjP ys) (by unfold zf4;simp [PyData.canLay0,zbH,PyData.depth,zcz])]
 simp only [PyData.eqv,zfD]
def gk (d:D):Prop:=kn d=true/\ ∀ ds,d= .tup ds->ds.length<64/\ ∀ x∈ds,kn x=true
theorem zi8 {xs:List Int} (h:xs.Nodup):(zb7 xs).Pairwise (· < ·):=by
 have h1:=zcX xs
 have h2:(zb7 xs).Nodup:=(zaD xs).nodup_iff.mpr h
 exact (List.pairwise_and_iff.mpr ⟨h1,h2⟩).imp fun z=>by have:=z.1;have:=z.2;omega
theorem zjX {xs:List Int} {m:Int} (m0:0<=m) (h:xs.Nodup) (b: ∀ x∈xs,0<=x/\x<m):(xs.length:Int)<=m:=by
 rw [<- (zaD xs).length_eq]
 exact znh m0 (zi8 h) fun x hx=>b x ((zaD xs).mem_iff.mp hx)
theorem zdb {p:Int->Bool} {k:D->Option D} (e: ∀ i:Int,k (.int i)=if p i=true then some (.int i) else none): ∀ xs:List Int,(xs.map D.int).filterMap k=(xs.filter p).map D.int
 | []=>rfl
 | x::r=>by
  rw [qaM,qat,e,List.filter_cons,zdb e r]
  cases p x<;>simp
theorem zsL {i j:Int}:zn4 [.int i,.int j]=pure (.int (if j<i then j else i)):=rfl
theorem zs0 {i j:Int}:zoR [.int i,.int j]=pure (.int (if j>i then j else i)):=rfl
theorem zmw (xs:List Int):dNe (tI xs) (.tup [])=pure (.bl (!xs.isEmpty)):=by
 show zja true _ _=_
 unfold zja
 rw [zjP xs,show pd (.tup [])=some (.tuple []) from rfl]
 have c:zf4 (.tuple (xs.map PyData.int)) (.tuple [])=true:=by
  unfold zf4
  simp [PyData.canLay0,PyData.canLayAll0,zbH,PyData.depth,PyData.depthAll,zcz]
 simp only [c,if_true,PyData.eqv]
 cases xs<;>rfl
theorem zeB (n:Nat):((List.range n).map fun (k:Nat)=>(k:Int)).Pairwise (· < ·):=by
 rw [List.pairwise_map]
 exact List.pairwise_lt_range.imp fun z=>by omega
theorem zgF {n:Nat}: ∀ x∈(List.range n).map fun (k:Nat)=>(k:Int),0<=x/\x<n:=fun x hx=>by
 obtain ⟨k,hk,rfl⟩:=qaU.mp hx
 have:=List.mem_range.mp hk
 omega
def EvX {α:Type} (m:M α) (c:String):Prop:= ∀ h, ∃ h',m h= .exc c h'/\Gro h h'
section
variable {α β:Type} {m:M α} {a:α} {f:α->M β} {c:String}
theorem EvX.raise:EvX (zik c:M α) c:=fun h=>⟨h,rfl,.refl⟩
theorem EvX.left (x:EvX m c):EvX (m>>=f) c:=fun h=>by
 obtain ⟨h1,e1,g1⟩:=x h
 refine ⟨h1,?_,g1⟩
 show M.bind m f h=_
 unfold M.bind
 rw [e1]
theorem Ev.bindX (x:Ev m a) (y:EvX (f a) c):EvX (m>>=f) c:=fun h=>by
 obtain ⟨h1,e1,g1⟩:=x h
 obtain ⟨h2,e2,g2⟩:=y h1
 refine ⟨h2,?_,g1.trans g2⟩
 show M.bind m f h=_
 unfold M.bind
 rw [e1]
 exact e2
end
theorem zl6 {names:List String} {gb:FS} {F:List D->M D} {sd:Sd} {c:String} {d:D} (x:EvX (gb sd) c) (hc:names.contains c=true) (ek:F [.exn c]=pure d):Ev (zhu names gb F sd) (.rt d):=fun h=>by
 obtain ⟨h1,e1,g1⟩:=x h
 refine ⟨h1,?_,g1⟩
 unfold zhu
 rw [e1]
 show (if names.contains c=true then (do let d<-noX (F [.exn c]);pure (.rt d):M Out) h1 else .bad)=_
 rw [qa4 hc,ek]
 rfl
theorem zr7 {g:FS} {sd:Sd}:zsC g sd=noX (g sd):=rfl
theorem zqn {g:FE} {sd:Sd}:zuF g sd=noX (g sd):=rfl
theorem zn7 {xs:List Int} {m:Int} (m0:0<=m) (h:xs.Pairwise (· < ·)) (b: ∀ x∈xs,0<=x/\x<m):(xs==(List.range m.toNat).map fun (k:Nat)=>(k:Int))=((xs.length:Int)==m):=by
 rw [Bool.eq_iff_iff,beq_iff_eq,beq_iff_eq]
 constructor
 ·intro e
  rw [e]
  simp
  omega
 ·intro e
  refine zrA h (zeB _) fun k=>⟨fun hk=> ?_,fun hk=> ?_⟩
  ·obtain ⟨h1,h2⟩:=b k hk
   exact qaU.mpr ⟨k.toNat,List.mem_range.mpr (by omega),by omega⟩
  ·have hb:=zgF k hk
   by_cases c:k∈xs
   ·exact c
   ·exfalso
    have:=zjX (xs:=k::xs) m0 (List.nodup_cons.mpr ⟨c,h.imp fun z=>by omega⟩) fun x hx=>by
     rcases qaP.mp hx with rfl | hx
     ·omega
     ·exact b x hx
    rw [qaE] at this
    omega
end L3
namespace K33
open PySem PySem.Spec PyProof.Rows L2 L3
noncomputable def zcg:List String:=["NoStock","NoOffer","NoThing","NoCover","NoPaper","NoNumber","NotFull","NotInRow","NoText","NoRow","TooMany"]
noncomputable def G_27:FS:=zat (sIf (zdh dLt (zaf 1) (zaT zeW (zac (zaf 0) zav))) (zb5 (cOp dIx (zaf 0) (zaf 1))) zfh) (zb5 (cOp zdK (cOp zje (cK (.int 6151)) (zaf 1)) (cK (.int 29))))
noncomputable def F_27:List D->M D:=zc4 2 G_27
theorem d_27 (x0 x1:D):F_27 [x0,x1]=(do let o<-G_27 [some x0,some x1];zc3 o):=rfl
noncomputable def zcP:FS:=zat (zbT 4 (cOp zl0 (cOp zdK (cOp zdK (cOp zdK (cOp zje (zaf 4) (cK (.int 48271))) (cOp zje (cOp zje (cK (.int 7)) (zaf 5)) (zaf 5))) (cOp zje (cK (.int 11)) (zaf 1))) (cK (.int 1))) (cK (.int 2147483647)))) (zbT 3 (cOp zdK (cOp zje (zaf 3) (cK (.int 2147483647))) (zaf 4)))
noncomputable def G_28:FS:=zat (zbT 2 (zaT (zay 2 F_27) (zac (zaf 0) (zac (zaf 1) zav)))) (zat (sIf (zdh dEq (cOp zl0 (zaf 2) (cK (.int 2))) (cK (.int 0))) (zb5 (zhn (zac (cOp zma (zaf 2) (cK (.int 2))) zav))) zfh) (zat (zbT 3 (cK (.int 0))) (zat (zbT 4 (cOp zl0 (zaf 2) (cK (.int 2147483647)))) (zat (zjc (ze4 (zac (cK (.int 24)) zav)) (zaG 5) zcP) (zb5 (zhn (zac (zaf 3) zav)))))))
noncomputable def F_28:List D->M D:=zc4 6 G_28
theorem d_28 (x0 x1:D):F_28 [x0,x1]=(do let o<-G_28 [some x0,some x1,none,none,none,none];zc3 o):=rfl
noncomputable def G_29:FS:=zat (zbT 2 (cOp zl0 (cOp dIx (zaf 0) (cK (.int 0))) (zaf 1))) (zat (zjU (cOp zma (cOp dIx (zaf 0) (cK (.int 0))) (zaf 1)) (zkl (zaf 0) (cK (.int 0)))) (zb5 (zaf 2)))
noncomputable def F_29:List D->M D:=zc4 3 G_29
theorem d_29 (x0 x1:D):F_29 [x0,x1]=(do let o<-G_29 [some x0,some x1,none];zc3 o):=rfl
noncomputable def zb0:FE:=zaf 0
noncomputable def zb2:FT:=zdh dEq (cOp zt4 (cOp zsZ (zaf 1) (zaf 0)) (cK (.int 1))) (cK (.int 1))
noncomputable def zbZ:FE:=cOp zl0 (cOp zdK (zaf 1) (cOp zje (zaf 2) (zaf 0))) (zaf 3)
noncomputable def G_32:FS:=zat (zbT 2 (zaT (zay 2 F_29) (zac (zaf 0) (zac (cK (.int 3)) zav)))) (zat (sIf (zdh dEq (zaf 2) (cK (.int 0))) (zat (zbT 3 (cOp zdK (cK (.int 1)) (zaT (zay 2 F_29) (zac (zaf 0) (zac (cOp zpF (cOp zs3 (cK (.int 1)) (zaf 1)) (cK (.int 1))) zav))))) (zb5 (zaT zcK (zac (zaK (ze4 (zac (zaf 1) zav)) (zaG 0) zb2 zb0 [none,some 3]) zav)))) zfh) (zat (zjU (zhK (zac (zaT (zay 2 F_29) (zac (zaf 0) (zac (zaf 1) zav))) (zac (cOp dIx (zjd (zac (cK (.int 1)) (zac (cOp zdK (cK (.int 1)) (zaT (zay 2 F_29) (zac (zaf 0) (zac (cK (.int 3)) zav)))) zav))) (cOp zpF (zaf 2) (cK (.int 1)))) zav))) (zbp 2 (zar (zaG 4) (zar (zaG 5) zbq)))) (zb5 (zaT zcK (zac (cUn zbW (zaK (ze4 (zac (cOp zdK (cK (.int 1)) (zaT (zay 2 F_29) (zac (zaf 0) (zac (cK (.int 4)) zav)))) zav)) (zaG 0) (fun _=>pure true) zbZ [none,some 4,some 5,some 1])) zav)))))
noncomputable def F_32:List D->M D:=zc4 6 G_32
theorem d_32 (x0 x1:D):F_32 [x0,x1]=(do let o<-G_32 [some x0,some x1,none,none,none,none];zc3 o):=rfl
noncomputable def zcF:FE:=zhn (zac (zaT (zay 2 F_32) (zac (zaf 1) (zac (zaf 2) zav))) (zac (cOp zdK (cK (.int 1)) (zaT (zay 2 F_29) (zac (zaf 1) (zac (zaf 3) zav)))) zav))
noncomputable def zdt:FE:=zaf 0
noncomputable def zdn:FT:=zdh dIn (zaf 1) (cOp dIx (zaf 0) (cK (.int 0)))
noncomputable def zbv:FS:=sIf (zdh zrw (zaK (iSq (zaf 5)) (zaG 0) zdn zdt [none,some 6]) (zjd zav)) (zat (zbT 7 (cOp dIx (zaf 5) (zaT (zay 2 F_29) (zac (zaf 0) (zac (zaT zeW (zac (zaf 5) zav)) zav))))) (zjU (zaT zcK (zac (zaT zhF (zac (cOp zdK (cOp dIx (zaf 7) (cK (.int 0))) (zhK (zac (zaf 6) zav))) zav)) zav)) (zkl (zaf 7) (cK (.int 0))))) zfh
noncomputable def zdJ:FE:=zhK (zac (cOp dIx (zaf 0) (cK (.int 0))) (zac (cOp dIx (zaf 0) (cK (.int 1))) zav))
noncomputable def G_33:FS:=zat (zbT 3 (cOp zdK (cK (.int 1)) (zaT (zay 2 F_29) (zac (zaf 0) (zac (zaf 1) zav))))) (zat (zbT 4 (cOp dIx (zjd (zac (cK (.int 3)) (zac (cK (.int 9)) (zac (cK (.int 50)) (zac (cOp zsF (cK (.int 10)) (cK (.int 12))) zav))))) (zaT (zay 2 F_29) (zac (zaf 0) (zac (cK (.int 4)) zav))))) (zat (zbT 5 (zaK (ze4 (zac (cOp zdK (cK (.int 1)) (zaT (zay 2 F_29) (zac (zaf 0) (zac (zaf 2) zav)))) zav)) (zaG 0) (fun _=>pure true) zcF [none,some 0,some 3,some 4])) (zat (zjc (ze4 (zac (zaf 3) zav)) (zaG 6) zbv) (zb5 (zhK (zac (zaf 3) (zac (zaT zcK (zac (zaK (iSq (zaf 5)) (zaG 0) (fun _=>pure true) zdJ [none]) zav)) zav)))))))
noncomputable def F_33:List D->M D:=zc4 8 G_33
theorem d_33 (x0 x1 x2:D):F_33 [x0,x1,x2]=(do let o<-G_33 [some x0,some x1,some x2,none,none,none,none,none];zc3 o):=rfl
noncomputable def zf0:FE:=zaT znE (zac (zaf 0) zav)
noncomputable def G_31:FS:=zat (zbT 1 (zjd (zac (cUn (zjb zcg "NoStock") (zaf 0)) (zac (cUn (zjb zcg "NoOffer") (zaf 0)) (zac (cUn (zjb zcg "NoThing") (zaf 0)) (zac (cUn (zjb zcg "NoCover") (zaf 0)) zav)))))) (zat (zbT 1 (cOp zdK (zaf 1) (zjd (zac (cUn (zjb zcg "NoPaper") (zaf 0)) (zac (cUn (zjb zcg "NoNumber") (zaf 0)) (zac (cUn (zjb zcg "NotFull") (zaf 0)) (zac (cUn (zjb zcg "NotInRow") (zaf 0)) zav))))))) (zat (zbT 1 (cOp zdK (zaf 1) (zjd (zac (cUn (zjb zcg "NoText") (zaf 0)) (zac (cUn (zjb zcg "NoRow") (zaf 0)) (zac (cUn (zjb zcg "TooMany") (zaf 0)) zav)))))) (zat (sIf (tOr (zg2 (zhl (cUn (zqw zcg) (zaf 0)))) (zdh dNe (zaT zuf (zac (zaK (iSq (zaf 1)) (zaG 0) (fun _=>pure true) zf0 [none]) zav)) (cK (.int 1)))) (zb5 (cK (.str "! none of the classes"))) zfh) (zat (zbT 2 (zjd (zac (cK (.str "stock")) (zac (cK (.str "offer")) (zac (cK (.str "thing")) (zac (cK (.str "cover")) (zac (cK (.str "paper")) (zac (cK (.str "number")) (zac (cK (.str "full")) (zac (cK (.str "in row")) (zac (cK (.str "text")) (zac (cK (.str "row")) (zac (cK (.str "many")) zav))))))))))))) (zb5 (cOp zdK (cK (.str "! ")) (cOp dIx (zaf 2) (cUn zqM (zaf 1)))))))))
noncomputable def F_31:List D->M D:=zc4 3 G_31
theorem d_31 (x0:D):F_31 [x0]=(do let o<-G_31 [some x0,none,none];zc3 o):=rfl
noncomputable def za9:FS:=ziE (zg6 (zaf 1) (cOp dIx (zaf 2) (cK (.int 0))))
noncomputable def G_16:FS:=zat (zbT 1 (zhn zav)) (zat (zjc (iSq (zaf 0)) (zaG 2) za9) (zb5 (zaT zcK (zac (cUn zbW (zaf 1)) zav))))
noncomputable def F_16:List D->M D:=zc4 3 G_16
theorem d_16 (x0:D):F_16 [x0]=(do let o<-G_16 [some x0,none,none];zc3 o):=rfl
noncomputable def G_17:FS:=zb5 (cOp dEq (zaT zeW (zac (zaT (zay 1 F_16) (zac (zaf 1) zav)) zav)) (cOp dIx (zaf 0) (cK (.int 0))))
noncomputable def F_17:List D->M D:=zc4 2 G_17
theorem d_17 (x0 x1:D):F_17 [x0,x1]=(do let o<-G_17 [some x0,some x1];zc3 o):=rfl
noncomputable def G_14:FS:=zb5 (zaT (zay 2 F_17) (zac (zaf 0) (zac (cOp dIx (zaf 0) (cK (.int 1))) zav)))
noncomputable def F_14:List D->M D:=zc4 1 G_14
theorem d_14 (x0:D):F_14 [x0]=(do let o<-G_14 [some x0];zc3 o):=rfl
noncomputable def G_15:FS:=sIf (zg2 (zhl (zaT (zay 1 fun ds=>noX (F_14 ds)) (zac (zaf 0) zav)))) (zh9 "NotFull") zfh
noncomputable def F_15:List D->M D:=zc4 1 G_15
theorem d_15 (x0:D):F_15 [x0]=(do let o<-G_15 [some x0];zc3 o):=rfl
noncomputable def zcp:FE:=cIf (zdh dIn (zaf 0) (cOp dIx (zaf 1) (cK (.int 0)))) (cK (.int 1)) (cK (.int 0))
noncomputable def zco:FE:=cIf (zdh dEq (zaf 0) (zaf 1)) (cK (.int 1)) (cK (.int 0))
noncomputable def zbI:FS:=zat (zbT 5 (zaK (ze4 (zac (cOp dIx (zaf 0) (cK (.int 0))) zav)) (zaG 0) (fun _=>pure true) zcp [none,some 4])) (ziE (zeL (zaf 1) (cOp zdK (cOp zdK (zaf 5) (zaK (ze4 (zac (zaf 2) zav)) (zaG 0) (fun _=>pure true) zco [none,some 3])) (zjd (zac (cOp dIx (zaf 4) (cK (.int 1))) zav)))))
noncomputable def G_19:FS:=zat (zbT 1 (zhn zav)) (zat (zbT 2 (zaT zeW (zac (cOp dIx (zaf 0) (cK (.int 1))) zav))) (zat (zjc (zsD (cOp dIx (zaf 0) (cK (.int 1)))) (zbp 2 (zar (zaG 3) (zar (zaG 4) zbq))) zbI) (zat (ziE (zeL (zaf 1) (cOp zdK (cOp zhr (zjd (zac (cUn zlF (cK (.int 1))) zav)) (cOp dIx (zaf 0) (cK (.int 0)))) (cOp zhr (zjd (zac (cK (.int 0)) zav)) (cOp zdK (zaf 2) (cK (.int 1))))))) (zb5 (cUn zrq (zaf 1))))))
noncomputable def F_19:List D->M D:=zc4 6 G_19
theorem d_19 (x0:D):F_19 [x0]=(do let o<-G_19 [some x0,none,none,none,none,none];zc3 o):=rfl
noncomputable def za7:FS:=sIf (zdh dLt (cOp dIx (zaf 1) (zaf 2)) (cK (.int 0))) (zb5 (zaf 2)) zfh
noncomputable def G_20:FS:=zat (zbT 1 (cOp dIx (zaf 0) (cUn zlF (cK (.int 1))))) (zat (zjc (ze4 (zac (cOp zpF (zaT zeW (zac (zaf 1) zav)) (cK (.int 1))) zav)) (zaG 2) za7) (zb5 (cK .non)))
noncomputable def F_20:List D->M D:=zc4 3 G_20
theorem d_20 (x0:D):F_20 [x0]=(do let o<-G_20 [some x0,none,none];zc3 o):=rfl
noncomputable def G_22:FS:=zat (zbT 5 (cOp zed (cOp dIx (cOp dIx (zaf 0) (zaf 3)) (cUn zlF (cK (.int 1)))) (cOp dIx (cOp dIx (zaf 0) (zaf 4)) (zaf 2)))) (zat (zbT 6 (cOp zed (cOp dIx (cOp dIx (zaf 0) (zaf 4)) (cUn zlF (cK (.int 1)))) (cOp dIx (cOp dIx (zaf 0) (zaf 3)) (zaf 2)))) (zb5 (cOr (cOp dLt (zaf 5) (zaf 6)) (zoL (cOp dEq (zaf 5) (zaf 6)) (cOp dLt (cOp dIx (zaf 1) (zaf 3)) (cOp dIx (zaf 1) (zaf 4)))))))
noncomputable def F_22:List D->M D:=zc4 7 G_22
theorem d_22 (x0 x1 x2 x3 x4:D):F_22 [x0,x1,x2,x3,x4]=(do let o<-G_22 [some x0,some x1,some x2,some x3,some x4,none,none];zc3 o):=rfl
noncomputable def zbf:FS:=sIf (zpT (zdh dGt (cOp dIx (cOp dIx (zaf 0) (zaf 4)) (zaf 2)) (cK (.int 0))) (tOr (zdh zsx (zaf 3) (cK .non)) (zhl (zaT (zay 5 F_22) (zac (zaf 0) (zac (zaf 1) (zac (zaf 2) (zac (zaf 4) (zac (zaf 3) zav))))))))) (zbT 3 (zaf 4)) zfh
noncomputable def G_21:FS:=zat (zbT 3 (cK .non)) (zat (zjc (ze4 (zac (zaT zeW (zac (zaf 1) zav)) zav)) (zaG 4) zbf) (zb5 (zaf 3)))
noncomputable def F_21:List D->M D:=zc4 5 G_21
theorem d_21 (x0 x1 x2:D):F_21 [x0,x1,x2]=(do let o<-G_21 [some x0,some x1,some x2,none,none];zc3 o):=rfl
noncomputable def zes:FE:=cOp zdE (cOp zpF (cOp zed (zaf 0) (cOp dIx (zaf 2) (zaf 3))) (cOp zed (zaf 1) (cOp dIx (zaf 4) (zaf 3)))) (zaf 5)
noncomputable def G_24:FS:=zb5 (zaK (zke (zac (zaf 0) (zac (zaf 1) zav))) (zbp 2 (zar (zaG 0) (zar (zaG 1) zbq))) (fun _=>pure true) zes [none,none,some 1,some 2,some 0,some 3])
noncomputable def F_24:List D->M D:=zc4 4 G_24
theorem d_24 (x0 x1 x2 x3:D):F_24 [x0,x1,x2,x3]=(do let o<-G_24 [some x0,some x1,some x2,some x3];zc3 o):=rfl
noncomputable def zdi:FE:=cIf (zdh dEq (zaf 0) (zaf 2)) (zaf 1) (zaT (zay 4 F_24) (zac (zaf 1) (zac (zaf 3) (zac (zaf 4) (zac (zaf 5) zav)))))
noncomputable def G_23:FS:=zat (zbT 4 (cOp dIx (zaf 0) (zaf 1))) (zb5 (zaK (zhj (zaf 0)) (zbp 2 (zar (zaG 0) (zar (zaG 1) zbq))) (fun _=>pure true) zdi [none,none,some 1,some 4,some 2,some 3]))
noncomputable def F_23:List D->M D:=zc4 5 G_23
theorem d_23 (x0 x1 x2 x3:D):F_23 [x0,x1,x2,x3]=(do let o<-G_23 [some x0,some x1,some x2,some x3,none];zc3 o):=rfl
noncomputable def zah:FT:=zdh dGt (zaf 3) (cK (.int 0))
noncomputable def zai:FS:=zat (zbT 4 (cOp zl0 (zaf 2) (zaf 3))) (zat (zbT 2 (zaf 3)) (zbT 3 (zaf 4)))
noncomputable def G_1:FS:=zat (zbT 2 (zaf 0)) (zat (zbT 3 (zaf 1)) (zat (zfk 20000 zah zai) (zb5 (zaf 2))))
noncomputable def F_1:List D->M D:=zc4 5 G_1
theorem d_1 (x0 x1:D):F_1 [x0,x1]=(do let o<-G_1 [some x0,some x1,none,none,none];zc3 o):=rfl
noncomputable def G_0:FS:=zat (zbT 2 (zaT (zay 2 F_1) (zac (zaf 0) (zac (zaf 1) zav)))) (zb5 (zhK (zac (cOp zdE (zaf 0) (zaf 2)) (zac (cOp zdE (zaf 1) (zaf 2)) zav))))
noncomputable def F_0:List D->M D:=zc4 3 G_0
theorem d_0 (x0 x1:D):F_0 [x0,x1]=(do let o<-G_0 [some x0,some x1,none];zc3 o):=rfl
noncomputable def zbS:FE:=zhK (zac (zaf 1) (zac (cOp dIx (cOp dIx (zaf 2) (zaf 0)) (cUn zlF (cK (.int 1)))) zav))
noncomputable def zcL:FE:=zaT (zay 2 F_0) (zac (zo5 (zaf 1) (zac (zaf 0) (zac (cK (.int 0)) zav))) (zac (zaf 2) zav))
noncomputable def G_25:FS:=zat (zbT 4 (zaT zn8 (zac (zaK (zhj (zaf 2)) (zbp 2 (zar (zaG 0) (zar (zaG 1) zbq))) (fun _=>pure true) zbS [none,none,some 1]) zav))) (zb5 (zaT zcK (zac (zaK (ze4 (zac (cOp dIx (zaf 0) (cK (.int 0))) zav)) (zaG 0) (fun _=>pure true) zcL [none,some 4,some 3]) zav)))
noncomputable def F_25:List D->M D:=zc4 5 G_25
theorem d_25 (x0 x1 x2 x3:D):F_25 [x0,x1,x2,x3]=(do let o<-G_25 [some x0,some x1,some x2,some x3,none];zc3 o):=rfl
noncomputable def zbQ:FE:=zaT (zay 2 F_0) (zac (cOp dIx (cOp dIx (zaf 1) (cUn zlF (cK (.int 1)))) (cOp zdK (cOp dIx (zaf 2) (cK (.int 0))) (zaf 0))) (zac (zaf 3) zav))
noncomputable def G_26:FS:=zb5 (zaT zcK (zac (zaK (ze4 (zac (zaT zeW (zac (cOp dIx (zaf 0) (cK (.int 1))) zav)) zav)) (zaG 0) (fun _=>pure true) zbQ [none,some 1,some 0,some 2]) zav))
noncomputable def F_26:List D->M D:=zc4 3 G_26
theorem d_26 (x0 x1 x2:D):F_26 [x0,x1,x2]=(do let o<-G_26 [some x0,some x1,some x2];zc3 o):=rfl
noncomputable def zcd:FE:=cOp zdK (cOp dIx (zaf 1) (cK (.int 0))) (zaf 0)
noncomputable def zbL:FT:=zdh zlw (zaf 4) (cK .non)
noncomputable def zci:FS:=zat (zbT 5 (zaT (zay 3 F_21) (zac (zaf 1) (zac (zaf 2) (zac (zaf 4) zav))))) (zat (zbT 1 (zaT (zay 4 F_23) (zac (zaf 1) (zac (zaf 5) (zac (zaf 4) (zac (zaf 3) zav)))))) (zat (zbT 3 (cOp dIx (cOp dIx (zaf 1) (zaf 5)) (zaf 4))) (zat (zjU (zaf 4) (zkl (zaf 2) (zaf 5))) (zbT 4 (zaT (zay 1 F_20) (zac (zaf 1) zav))))))
noncomputable def G_18:FS:=zat (ziE (zaT (zay 1 F_15) (zac (zaf 0) zav))) (zat (zbT 1 (zaT (zay 1 fun ds=>noX (F_19 ds)) (zac (zaf 0) zav))) (zat (zsC (zbT 2 (zfj (ze4 (zac (zaT zeW (zac (cOp dIx (zaf 0) (cK (.int 1))) zav)) zav)) (zaG 0) (fun _=>pure true) zcd [none,some 0]))) (zat (zbT 3 (cK (.int 1))) (zat (zbT 4 (zaT (zay 1 fun ds=>noX (F_20 ds)) (zac (zaf 1) zav))) (zat (zsC (zfk 100000000000000000 zbL zci)) (zb5 (zhK (zac (zaT (zay 4 fun ds=>noX (F_25 ds)) (zac (zaf 0) (zac (zaf 1) (zac (cUn zrq (zaf 2)) (zac (zaf 3) zav))))) (zac (zaT (zay 3 fun ds=>noX (F_26 ds)) (zac (zaf 0) (zac (zaf 1) (zac (zaf 3) zav)))) zav)))))))))
noncomputable def F_18:List D->M D:=zc4 6 G_18
theorem d_18 (x0:D):F_18 [x0]=(do let o<-G_18 [some x0,none,none,none,none,none];zc3 o):=rfl
noncomputable def G_40:FS:=zhu zcg (zb5 (zaT (zay 1 F_18) (zac (zaf 0) zav))) F_31
noncomputable def F_40:List D->M D:=zc4 2 G_40
theorem d_40 (x0:D):F_40 [x0]=(do let o<-G_40 [some x0,none];zc3 o):=rfl
noncomputable def G_30:FS:=zb5 (zoL (cUn (zhk "int") (zaf 0)) (zty (cUn (zhk "bool") (zaf 0))))
noncomputable def F_30:List D->M D:=zc4 1 G_30
theorem d_30 (x0:D):F_30 [x0]=(do let o<-G_30 [some x0];zc3 o):=rfl
noncomputable def zaB:FT:=zdh dGt (zaf 3) (cK (.int 0))
noncomputable def zaF:FS:=zpA 2 3 (zac (zaf 3) (zac (cOp zl0 (zaf 2) (zaf 3)) zav))
noncomputable def G_35:FS:=zat (zpA 2 3 (zac (zaT zr2 (zac (zaf 0) zav)) (zac (zaT zr2 (zac (zaf 1) zav)) zav))) (zat (zfk 20000 zaB zaF) (zb5 (zhK (zac (cOp zdE (zaf 0) (zaf 2)) (zac (cOp zdE (zaf 1) (zaf 2)) zav)))))
noncomputable def F_35:List D->M D:=zc4 4 G_35
theorem d_35 (x0 x1:D):F_35 [x0,x1]=(do let o<-G_35 [some x0,some x1,none,none];zc3 o):=rfl
noncomputable def G_36:FS:=zat (sIf (tOr (zg2 (zhl (cUn (zhk "tuple") (zaf 0)))) (tOr (zdh dNe (zaT zeW (zac (zaf 0) zav)) (cK (.int 2))) (tOr (zg2 (zhl (zaT (zay 1 F_30) (zac (cOp dIx (zaf 0) (cK (.int 0))) zav)))) (zg2 (zhl (zaT (zay 1 F_30) (zac (cOp dIx (zaf 0) (cK (.int 1))) zav))))))) (zb5 (cK (.bl false))) zfh) (zb5 (zoL (cOp dGt (cOp dIx (zaf 0) (cK (.int 1))) (cK (.int 0))) (cOp dEq (zaT (zay 2 F_35) (zac (cOp dIx (zaf 0) (cK (.int 0))) (zac (cOp dIx (zaf 0) (cK (.int 1))) zav))) (zaf 0))))
noncomputable def F_36:List D->M D:=zc4 1 G_36
theorem d_36 (x0:D):F_36 [x0]=(do let o<-G_36 [some x0];zc3 o):=rfl
noncomputable def zcc:FS:=zjU (zaT (zay 2 F_35) (zac (cOp zdK (cOp zed (zaf 1) (cOp dIx (zaf 3) (cK (.int 1)))) (cOp zed (cOp dIx (zaf 3) (cK (.int 0))) (zaf 2))) (zac (cOp zed (zaf 2) (cOp dIx (zaf 3) (cK (.int 1)))) zav))) (zbp 2 (zar (zaG 1) (zar (zaG 2) zbq)))
noncomputable def G_37:FS:=zat (zjU (zhK (zac (cK (.int 0)) (zac (cK (.int 1)) zav))) (zbp 2 (zar (zaG 1) (zar (zaG 2) zbq)))) (zat (zjc (iSq (zaf 0)) (zaG 3) zcc) (zb5 (zhK (zac (zaf 1) (zac (zaf 2) zav)))))
noncomputable def F_37:List D->M D:=zc4 4 G_37
theorem d_37 (x0:D):F_37 [x0]=(do let o<-G_37 [some x0,none,none,none];zc3 o):=rfl
noncomputable def za5:FE:=zoL (zaT (zay 1 F_36) (zac (zaf 0) zav)) (cOp dGe (cOp dIx (zaf 0) (cK (.int 0))) (cK (.int 0)))
noncomputable def za6:FE:=zaf 0
noncomputable def za8:FT:=zdh dIn (zaf 2) (cOp dIx (zaf 1) (cK (.int 0)))
noncomputable def zaR:FS:=zat (zjU (zaT (zay 1 F_37) (zac (zaK (znO (zac (zaf 1) (zac (cOp dIx (zaf 0) (cK (.int 1))) zav))) (zbp 2 (zar (zaG 0) (zar (zaG 1) zbq))) za8 za6 [none,none,some 2]) zav)) (zbp 2 (zar (zaG 3) (zar (zaG 4) zbq)))) (sIf (zdh dLt (zaf 3) (zaf 4)) (zb5 (cK (.bl false))) zfh)
noncomputable def G_39:FS:=zat (sIf (tOr (zg2 (zhl (cUn (zhk "tuple") (zaf 1)))) (zdh dNe (zaT zeW (zac (zaf 1) zav)) (zaT zeW (zac (cOp dIx (zaf 0) (cK (.int 1))) zav)))) (zb5 (cK (.bl false))) zfh) (zat (sIf (zg2 (zhl (zaT zsG (zac (zaK (iSq (zaf 1)) (zaG 0) (fun _=>pure true) za5 [none]) zav)))) (zb5 (cK (.bl false))) zfh) (zat (zjc (ze4 (zac (cOp dIx (zaf 0) (cK (.int 0))) zav)) (zaG 2) zaR) (zb5 (cK (.bl true)))))
noncomputable def F_39:List D->M D:=zc4 5 G_39
theorem d_39 (x0 x1:D):F_39 [x0,x1]=(do let o<-G_39 [some x0,some x1,none,none,none];zc3 o):=rfl
noncomputable def za4:FE:=zoL (zaT (zay 1 F_36) (zac (zaf 0) zav)) (cOp dGe (cOp dIx (zaf 0) (cK (.int 0))) (cK (.int 0)))
noncomputable def zbX:FE:=cOp dIx (zaf 1) (zaf 0)
noncomputable def zaQ:FS:=zat (zjU (zaT (zay 1 F_37) (zac (zaK (iSq (zaf 2)) (zaG 0) (fun _=>pure true) zbX [none,some 1]) zav)) (zbp 2 (zar (zaG 4) (zar (zaG 5) zbq)))) (sIf (zdh dGt (zaf 4) (cOp zed (zaf 3) (zaf 5))) (zb5 (cK (.bl false))) zfh)
noncomputable def G_38:FS:=zat (sIf (tOr (zg2 (zhl (cUn (zhk "tuple") (zaf 1)))) (zdh dNe (zaT zeW (zac (zaf 1) zav)) (cOp dIx (zaf 0) (cK (.int 0))))) (zb5 (cK (.bl false))) zfh) (zat (sIf (zg2 (zhl (zaT zsG (zac (zaK (iSq (zaf 1)) (zaG 0) (fun _=>pure true) za4 [none]) zav)))) (zb5 (cK (.bl false))) zfh) (zat (zjc (iSq (cOp dIx (zaf 0) (cK (.int 1)))) (zbp 2 (zar (zaG 2) (zar (zaG 3) zbq))) zaQ) (zb5 (cK (.bl true)))))
noncomputable def F_38:List D->M D:=zc4 6 G_38
theorem d_38 (x0 x1:D):F_38 [x0,x1]=(do let o<-G_38 [some x0,some x1,none,none,none,none];zc3 o):=rfl
noncomputable def zcm:FE:=zaf 0
noncomputable def zck:FT:=zdh dNe (zaf 0) (zaf 1)
noncomputable def zcl:FE:=zhK (zac (zaT zcK (zac (zaK (iSq (zaf 0)) (zaG 0) zck zcm [none,some 2]) zav)) (zac (zaf 1) zav))
noncomputable def zcn:FE:=zaf 0
noncomputable def zcr:FT:=zdh dNe (cOp dIx (zaf 0) (cK (.int 0))) (zhK zav)
noncomputable def G_34:FS:=zat (zjU (zaf 1) (zbp 2 (zar (zaG 2) (zar (zaG 3) zbq)))) (zat (zbT 4 (zaT (zay 2 F_29) (zac (zaf 0) (zac (zaf 2) zav)))) (zat (zbT 5 (zaK (iSq (zaf 3)) (zbp 2 (zar (zaG 0) (zar (zaG 1) zbq))) (fun _=>pure true) zcl [none,none,some 4])) (zb5 (zhK (zac (zaf 2) (zac (zaT zcK (zac (zaK (iSq (zaf 5)) (zaG 0) zcr zcn [none]) zav)) zav))))))
noncomputable def F_34:List D->M D:=zc4 6 G_34
theorem d_34 (x0 x1:D):F_34 [x0,x1]=(do let o<-G_34 [some x0,some x1,none,none,none,none];zc3 o):=rfl
noncomputable def zhi:FE:=zaT (zay 2 F_35) (zac (cOp zed (cOp dIx (zaf 0) (cK (.int 0))) (cOp dIx (zaf 1) (cK (.int 1)))) (zac (cOp dIx (zaf 0) (cK (.int 1))) zav))
noncomputable def zeD:FS:=zat (zbT 2 (zaT (zay 2 F_28) (zac (zaf 0) (zac (zaf 1) zav)))) (zat (zbT 3 (zaT (zay 3 F_33) (zac (zaf 2) (zac (cK (.int 10)) (zac (cK (.int 12)) zav))))) (zat (zbT 4 (zaT (zay 1 F_40) (zac (zaf 3) zav))) (zat (sIf (tOr (zg2 (zhl (cUn (zhk "tuple") (zaf 4)))) (tOr (zdh dNe (zaT zeW (zac (zaf 4) zav)) (cK (.int 2))) (zdh dNe (zaT (zay 1 F_40) (zac (zaf 3) zav)) (zaf 4)))) (zb5 (cK (.bl false))) zfh) (zat (sIf (tOr (zg2 (zhl (zaT (zay 2 F_38) (zac (zaf 3) (zac (cOp dIx (zaf 4) (cK (.int 0))) zav))))) (zg2 (zhl (zaT (zay 2 F_39) (zac (zaf 3) (zac (cOp dIx (zaf 4) (cK (.int 1))) zav)))))) (zb5 (cK (.bl false))) zfh) (zat (zbT 5 (zaK (znO (zac (cOp dIx (zaf 4) (cK (.int 1))) (zac (cOp dIx (zaf 3) (cK (.int 1))) zav))) (zbp 2 (zar (zaG 0) (zar (zaG 1) zbq))) (fun _=>pure true) zhi [none,none])) (sIf (tOr (zdh dNe (zaT (zay 1 F_37) (zac (cOp dIx (zaf 4) (cK (.int 0))) zav)) (zaT (zay 1 F_37) (zac (zaf 5) zav))) (zdh dNe (zaT (zay 1 F_40) (zac (zaT (zay 2 F_34) (zac (zaf 2) (zac (zaf 3) zav))) zav)) (cK (.str "! full")))) (zb5 (cK (.bl false))) zfh))))))
noncomputable def G_41:FS:=zat (zjc (ze4 (zac (zaT zoR (zac (cK (.int 1)) (zac (zaT zn4 (zac (zaT zeW (zac (zaf 0) zav)) (zac (cK (.int 4)) zav))) zav))) zav)) (zaG 1) zeD) (zb5 (cK (.bl true)))
noncomputable def F_41:List D->M D:=zc4 6 G_41
theorem d_41 (x0:D):F_41 [x0]=(do let o<-G_41 [some x0,none,none,none,none,none];zc3 o):=rfl
end K33
set_option genInjectivity false
set_option genSizeOf false
set_option genSizeOfSpec false
namespace K33
open PySem PySem.Spec PyProof.Rows L2 L3
set_option hygiene false in
local macro_rules
|`(tactic|ext a)=>`(tactic|refine zaa ?_ ?_)
|`(tactic|ext b)=>`(tactic|exact (hr.mono (by decide)))
|`(tactic|ext c)=>`(tactic|refine zbo ?_ ?_ ?_)
|`(tactic|ext d)=>`(tactic|refine zag ?_ ?_)
|`(tactic|ext e)=>`(tactic|refine zaA (k:=1) (g:=t.a_29) (fd:=t.d_29) (ps:=["box","many"]) ?_ ?_ ?_ ?_ ?_ ?_)
|`(tactic|ext f)=>`(tactic|refine zbd ?_ ?_)
|`(tactic|ext g)=>`(tactic|exact zab 0)
|`(tactic|ext h)=>`(tactic|exact zad)
|`(tactic|ext i)=>`(tactic|refine zap ?_)
|`(tactic|ext j)=>`(tactic|exact zaj)
|`(tactic|ext k)=>`(tactic|exact zab 1)
|`(tactic|ext l)=>`(tactic|refine zaV (id:="len") ?_ ?_ ?_ ?_)
|`(tactic|ext m)=>`(tactic|refine zaY ?_ ?_ ?_)
|`(tactic|ext n)=>`(tactic|exact (BOk.of (Xn:=(zae s_33).names) (XN:=["box","most","lots","many","far","rows","thing","row"]) rfl rfl rfl (by decide +kernel)))
|`(tactic|ext o)=>`(tactic|exact (zaC.tup (zaN.cons (i:=0) rfl (zaN.cons (i:=1) rfl zaN.nil))))
|`(tactic|ext p)=>`(tactic|refine zaX ?_)
|`(tactic|ext q)=>`(tactic|exact (zaC.name (i:=0) rfl))
|`(tactic|ext r)=>`(tactic|refine zaw ?_ ?_)
|`(tactic|ext s)=>`(tactic|refine zaA (k:=2) (g:=t.a_37) (fd:=t.d_37) (ps:=["some"]) ?_ ?_ ?_ ?_ ?_ ?_)
|`(tactic|ext t)=>`(tactic|refine zbt (T:="tuple") ?_ ?_ ?_ ?_)
|`(tactic|ext u)=>`(tactic|exact T.n_isinstance)
|`(tactic|ext v)=>`(tactic|exact zab 2)
|`(tactic|ext w)=>`(tactic|refine zf6 ?_ ?_ ?_)
|`(tactic|ext x)=>`(tactic|exact (BOk.of (Xn:=(zae s_19).names) (XN:=["stock","rows","count","number","offer","things"]) rfl rfl rfl (by decide +kernel)))
|`(tactic|ext y)=>`(tactic|exact (BOk.of (Xn:=(zae s_38).names) (XN:=["stock","thing","things","price","top","bottom"]) rfl rfl rfl (by decide +kernel)))
|`(tactic|ext z)=>`(tactic|refine zaA (k:=1) (g:=t.a_35) (fd:=t.d_35) (ps:=["top","bottom"]) ?_ ?_ ?_ ?_ ?_ ?_)
|`(tactic|ext A)=>`(tactic|exact (BOk.of (Xn:=(zae s_34).names) (XN:=["box","stock","many","offers","gone","left"]) rfl rfl rfl (by decide +kernel)))
|`(tactic|ext B)=>`(tactic|exact (BOk.of (Xn:=(zae s_32).names) (XN:=["box","many","way","bits","first","step"]) rfl rfl rfl (by decide +kernel)))
|`(tactic|ext C)=>`(tactic|exact (BOk.of (Xn:=(zae s_25).names) (XN:=["stock","rows","basis","bottom","borne"]) rfl rfl rfl (by decide +kernel)))
|`(tactic|ext D)=>`(tactic|exact zab 3)
|`(tactic|ext E)=>`(tactic|exact (by decide +kernel))
|`(tactic|ext F)=>`(tactic|exact (BOk.of (Xn:=(zae s_39).names) (XN:=["stock","thing","one","top","bottom"]) rfl rfl rfl (by decide +kernel)))
|`(tactic|ext G)=>`(tactic|refine zaA (k:=6) (g:=t.a_40) (fd:=t.d_40) (ps:=["stock"]) ?_ ?_ ?_ ?_ ?_ ?_)
|`(tactic|ext H)=>`(tactic|exact PassesOwn.never)
|`(tactic|ext I)=>`(tactic|refine ze8 ?_ ?_ ?_ ?_ ?_)
|`(tactic|ext J)=>`(tactic|exact rfl)
|`(tactic|ext K)=>`(tactic|exact zab 4)
|`(tactic|ext L)=>`(tactic|refine zdo ?_ ?_)
|`(tactic|ext M)=>`(tactic|refine zcb ?_ ?_)
|`(tactic|ext N)=>`(tactic|refine zaA (k:=2) (g:=t.a_0) (fd:=t.d_0) (ps:=["top","bottom"]) ?_ ?_ ?_ ?_ ?_ ?_)
|`(tactic|ext O)=>`(tactic|refine za0 3 ?_ ?_)
|`(tactic|ext P)=>`(tactic|exact T.n_range)
|`(tactic|ext Q)=>`(tactic|exact (zc8 (ze6 hr)))
|`(tactic|ext R)=>`(tactic|refine za0 4 ?_ ?_)
|`(tactic|ext S)=>`(tactic|exact T.n_tuple)
|`(tactic|ext T)=>`(tactic|refine zeG ?_ ?_)
|`(tactic|ext U)=>`(tactic|exact (zd0 (ze6 hr)))
|`(tactic|ext V)=>`(tactic|refine ziO ?_ ?_ ?_ ?_ ?_)
|`(tactic|ext W)=>`(tactic|refine za0 2 ?_ ?_)
|`(tactic|ext X)=>`(tactic|exact T.n_len)
|`(tactic|ext Y)=>`(tactic|refine zgW ?_ ?_ ?_)
|`(tactic|ext Z)=>`(tactic|exact T.F_29.kp)
|`(tactic|ext aa)=>`(tactic|refine zdW ?_)
|`(tactic|ext ab)=>`(tactic|refine za0 1 ?_ ?_)
|`(tactic|ext ac)=>`(tactic|exact T.x_exc)
|`(tactic|ext ad)=>`(tactic|refine zcy ?_)
|`(tactic|ext ae)=>`(tactic|exact zab 5)
|`(tactic|ext af)=>`(tactic|refine zfq ?_ ?_)
|`(tactic|ext ag)=>`(tactic|refine zeh ?_)
|`(tactic|ext ah)=>`(tactic|refine zcN ?_)
|`(tactic|ext ai)=>`(tactic|exact zaP)
|`(tactic|ext aj)=>`(tactic|(ext i;ext p))
|`(tactic|ext ak)=>`(tactic|(ext j;ext h))
|`(tactic|ext al)=>`(tactic|(ext f;ext g))
|`(tactic|ext am)=>`(tactic|(ext a;ext g))
|`(tactic|ext an)=>`(tactic|(ext a;ext k))
|`(tactic|ext ao)=>`(tactic|(ext c;ext ai))
|`(tactic|ext ap)=>`(tactic|(ext h;ext d))
|`(tactic|ext aq)=>`(tactic|(ext a;ext D))
|`(tactic|ext ar)=>`(tactic|(ext a;ext al))
|`(tactic|ext as)=>`(tactic|(ext L;ext P))
|`(tactic|ext au)=>`(tactic|(ext M;ext J))
|`(tactic|ext av)=>`(tactic|(ext au;ext r))
|`(tactic|ext aw)=>`(tactic|(ext ar;ext ak))
|`(tactic|ext ax)=>`(tactic|(ext al;ext j))
|`(tactic|ext ay)=>`(tactic|(ext h;ext h))
|`(tactic|ext az)=>`(tactic|(ext ah;ext ad))
noncomputable def top (i:Nat):Stmt:=PySem.Challenge.pw_cheapcovers_k33_the_best_of_both.main.body.getD i (.Pass ⟨0,0,0,0⟩)
theorem ze6 {A:Around} {k:Nat} (hr:zdN k A):A.units+60<cLine:=by have:=hr.units;omega
theorem zsX {A:Around} {k:Nat} (hr:zdM k A):A.units+60<cLine:=by have:=hr.un;omega
theorem zrr {P:Program} {w:World} {K:W.Frag} {mg:Str->Option Value} {base:Heap} {N:List Str} {qual:Str} {scope:Scope} {f:Addr} {cd:Value} {A:Around} {outer:List Env} {s:Shared} {H:Hp} {E:XK}:zeR (zg4 CX0 P w K mg base N qual scope f cd A outer s H E).nox:=⟨rfl,rfl,rfl⟩
theorem znq:bootBuiltins "abs"=some (.builtin "abs"):=by decide +kernel
theorem znu:bootBuiltins "all"=some (.builtin "all"):=by decide +kernel
theorem zoI:bootBuiltins "bool"=some (.type "bool"):=by decide +kernel
theorem zpb:bootBuiltins "dict"=some (.type "dict"):=by decide +kernel
theorem zmJ:bootBuiltins "int"=some (.type "int"):=by decide +kernel
theorem zch:bootBuiltins "len"=some (.builtin "len"):=by decide +kernel
theorem zsq:bootBuiltins "max"=some (.builtin "max"):=by decide +kernel
theorem zp3:bootBuiltins "min"=some (.builtin "min"):=by decide +kernel
theorem zkV:bootBuiltins "sorted"=some (.builtin "sorted"):=by decide +kernel
theorem zqT:bootBuiltins "sum"=some (.builtin "sum"):=by decide +kernel
theorem zbh:bootBuiltins "tuple"=some (.type "tuple"):=by decide +kernel
noncomputable abbrev s_27:Stmt:=top 32
noncomputable abbrev s_28:Stmt:=top 33
noncomputable abbrev s_29:Stmt:=top 34
noncomputable abbrev s_32:Stmt:=top 37
noncomputable abbrev s_33:Stmt:=top 38
noncomputable abbrev s_31:Stmt:=top 36
noncomputable abbrev s_16:Stmt:=top 19
noncomputable abbrev s_17:Stmt:=top 20
noncomputable abbrev s_14:Stmt:=top 17
noncomputable abbrev s_15:Stmt:=top 18
noncomputable abbrev s_19:Stmt:=top 23
noncomputable abbrev s_20:Stmt:=top 24
noncomputable abbrev s_22:Stmt:=top 26
noncomputable abbrev s_21:Stmt:=top 25
noncomputable abbrev s_24:Stmt:=top 28
noncomputable abbrev s_23:Stmt:=top 27
noncomputable abbrev s_1:Stmt:=top 2
noncomputable abbrev s_0:Stmt:=top 1
noncomputable abbrev s_25:Stmt:=top 29
noncomputable abbrev s_26:Stmt:=top 30
noncomputable abbrev s_18:Stmt:=top 22
noncomputable abbrev s_40:Stmt:=top 45
noncomputable abbrev s_30:Stmt:=top 35
noncomputable abbrev s_35:Stmt:=top 40
noncomputable abbrev s_36:Stmt:=top 41
noncomputable abbrev s_37:Stmt:=top 42
noncomputable abbrev s_39:Stmt:=top 44
noncomputable abbrev s_38:Stmt:=top 43
noncomputable abbrev s_34:Stmt:=top 39
noncomputable abbrev s_41:Stmt:=top 46
structure Ad where
 a_2:Addr
 a_3:Addr
 a_4:Addr
 a_5:Addr
 a_6:Addr
 a_7:Addr
 a_8:Addr
 a_9:Addr
 a_10:Addr
 a_11:Addr
 a_12:Addr
 a_13:Addr
 a_27:Addr
 d_27:FuncData
 a_28:Addr
 d_28:FuncData
 a_29:Addr
 d_29:FuncData
 a_32:Addr
 d_32:FuncData
 a_33:Addr
 d_33:FuncData
 a_31:Addr
 d_31:FuncData
 a_16:Addr
 d_16:FuncData
 a_17:Addr
 d_17:FuncData
 a_14:Addr
 d_14:FuncData
 a_15:Addr
 d_15:FuncData
 a_19:Addr
 d_19:FuncData
 a_20:Addr
 d_20:FuncData
 a_22:Addr
 d_22:FuncData
 a_21:Addr
 d_21:FuncData
 a_24:Addr
 d_24:FuncData
 a_23:Addr
 d_23:FuncData
 a_1:Addr
 d_1:FuncData
 a_0:Addr
 d_0:FuncData
 a_25:Addr
 d_25:FuncData
 a_26:Addr
 d_26:FuncData
 a_18:Addr
 d_18:FuncData
 a_40:Addr
 d_40:FuncData
 a_30:Addr
 d_30:FuncData
 a_35:Addr
 d_35:FuncData
 a_36:Addr
 d_36:FuncData
 a_37:Addr
 d_37:FuncData
 a_39:Addr
 d_39:FuncData
 a_38:Addr
 d_38:FuncData
 a_34:Addr
 d_34:FuncData
 a_41:Addr
 d_41:FuncData
structure Tx (K:W.Frag) (mg:Str->Option Value) (t:Ad):Prop where
 n_ValueError:mg "ValueError"=none
 n_abs:mg "abs"=none
 n_all:mg "all"=none
 n_bool:mg "bool"=none
 n_dict:mg "dict"=none
 n_enumerate:mg "enumerate"=none
 n_int:mg "int"=none
 n_isinstance:mg "isinstance"=none
 n_len:mg "len"=none
 n_max:mg "max"=none
 n_min:mg "min"=none
 n_range:mg "range"=none
 n_set:mg "set"=none
 n_sorted:mg "sorted"=none
 n_sum:mg "sum"=none
 n_tuple:mg "tuple"=none
 n_zip:mg "zip"=none
 g_2:mg "CoverError"=some (.ref t.a_2)
 g_3:mg "NoStock"=some (.ref t.a_3)
 g_4:mg "NoOffer"=some (.ref t.a_4)
 g_5:mg "NoThing"=some (.ref t.a_5)
 g_6:mg "NoCover"=some (.ref t.a_6)
 g_7:mg "NoPaper"=some (.ref t.a_7)
 g_8:mg "NoNumber"=some (.ref t.a_8)
 g_9:mg "NotFull"=some (.ref t.a_9)
 g_10:mg "NotInRow"=some (.ref t.a_10)
 g_11:mg "NoText"=some (.ref t.a_11)
 g_12:mg "NoRow"=some (.ref t.a_12)
 g_13:mg "TooMany"=some (.ref t.a_13)
 k_3:zbO K "NoStock" t.a_3
 k_4:zbO K "NoOffer" t.a_4
 k_5:zbO K "NoThing" t.a_5
 k_6:zbO K "NoCover" t.a_6
 k_7:zbO K "NoPaper" t.a_7
 k_8:zbO K "NoNumber" t.a_8
 k_9:zbO K "NotFull" t.a_9
 k_10:zbO K "NotInRow" t.a_10
 k_11:zbO K "NoText" t.a_11
 k_12:zbO K "NoRow" t.a_12
 k_13:zbO K "TooMany" t.a_13
 x_exc:zlf K t.a_2 zcg
 m_27:mg "_law_cell"=some (.ref t.a_27)
 F_27:Fun K "_law_cell" "_law_cell" s_27 t.a_27 t.d_27
 b_27:zaS K t.d_27 ["script","k"] []
 m_28:mg "_law_box"=some (.ref t.a_28)
 F_28:Fun K "_law_box" "_law_box" s_28 t.a_28 t.d_28
 b_28:zaS K t.d_28 ["script","k"] []
 m_29:mg "_law_take"=some (.ref t.a_29)
 F_29:Fun K "_law_take" "_law_take" s_29 t.a_29 t.d_29
 b_29:zaS K t.d_29 ["box","many"] []
 m_32:mg "_law_things"=some (.ref t.a_32)
 F_32:Fun K "_law_things" "_law_things" s_32 t.a_32 t.d_32
 b_32:zaS K t.d_32 ["box","many"] []
 m_33:mg "_law_full"=some (.ref t.a_33)
 F_33:Fun K "_law_full" "_law_full" s_33 t.a_33 t.d_33
 b_33:zaS K t.d_33 ["box","most","lots"] []
 m_31:mg "_law_kind"=some (.ref t.a_31)
 F_31:Fun K "_law_kind" "_law_kind" s_31 t.a_31 t.d_31
 b_31:zaS K t.d_31 ["e"] []
 m_16:mg "things_together"=some (.ref t.a_16)
 F_16:Fun K "things_together" "things_together" s_16 t.a_16 t.d_16
 b_16:zaS K t.d_16 ["offers"] []
 m_17:mg "have_all"=some (.ref t.a_17)
 F_17:Fun K "have_all" "have_all" s_17 t.a_17 t.d_17
 b_17:zaS K t.d_17 ["stock","offers"] []
 m_14:mg "is_full"=some (.ref t.a_14)
 F_14:Fun K "is_full" "is_full" s_14 t.a_14 t.d_14
 b_14:zaS K t.d_14 ["stock"] []
 m_15:mg "need_full"=some (.ref t.a_15)
 F_15:Fun K "need_full" "need_full" s_15 t.a_15 t.d_15
 b_15:zaS K t.d_15 ["stock"] []
 m_19:mg "first_rows"=some (.ref t.a_19)
 F_19:Fun K "first_rows" "first_rows" s_19 t.a_19 t.d_19
 b_19:zaS K t.d_19 ["stock"] []
 m_20:mg "column_to_enter"=some (.ref t.a_20)
 F_20:Fun K "column_to_enter" "column_to_enter" s_20 t.a_20 t.d_20
 b_20:zaS K t.d_20 ["rows"] []
 m_22:mg "leaves_ahead"=some (.ref t.a_22)
 F_22:Fun K "leaves_ahead" "leaves_ahead" s_22 t.a_22 t.d_22
 b_22:zaS K t.d_22 ["rows","basis","column","place","best"] []
 m_21:mg "place_to_leave"=some (.ref t.a_21)
 F_21:Fun K "place_to_leave" "place_to_leave" s_21 t.a_21 t.d_21
 b_21:zaS K t.d_21 ["rows","basis","column"] []
 m_24:mg "swept"=some (.ref t.a_24)
 F_24:Fun K "swept" "swept" s_24 t.a_24 t.d_24
 b_24:zaS K t.d_24 ["row","chosen","column","bottom"] []
 m_23:mg "pivoted"=some (.ref t.a_23)
 F_23:Fun K "pivoted" "pivoted" s_23 t.a_23 t.d_23
 b_23:zaS K t.d_23 ["rows","place","column","bottom"] []
 m_1:mg "greatest_divisor"=some (.ref t.a_1)
 F_1:Fun K "greatest_divisor" "greatest_divisor" s_1 t.a_1 t.d_1
 b_1:zaS K t.d_1 ["top","bottom"] []
 m_0:mg "reduced"=some (.ref t.a_0)
 F_0:Fun K "reduced" "reduced" s_0 t.a_0 t.d_0
 b_0:zaS K t.d_0 ["top","bottom"] []
 m_25:mg "bearing_told"=some (.ref t.a_25)
 F_25:Fun K "bearing_told" "bearing_told" s_25 t.a_25 t.d_25
 b_25:zaS K t.d_25 ["stock","rows","basis","bottom"] []
 m_26:mg "sharing_told"=some (.ref t.a_26)
 F_26:Fun K "sharing_told" "sharing_told" s_26 t.a_26 t.d_26
 b_26:zaS K t.d_26 ["stock","rows","bottom"] []
 m_18:mg "balanced"=some (.ref t.a_18)
 F_18:Fun K "balanced" "balanced" s_18 t.a_18 t.d_18
 b_18:zaS K t.d_18 ["stock"] []
 m_40:mg "_law_asked"=some (.ref t.a_40)
 F_40:Fun K "_law_asked" "_law_asked" s_40 t.a_40 t.d_40
 b_40:zaS K t.d_40 ["stock"] []
 m_30:mg "_law_whole"=some (.ref t.a_30)
 F_30:Fun K "_law_whole" "_law_whole" s_30 t.a_30 t.d_30
 b_30:zaS K t.d_30 ["thing"] []
 m_35:mg "_law_frac"=some (.ref t.a_35)
 F_35:Fun K "_law_frac" "_law_frac" s_35 t.a_35 t.d_35
 b_35:zaS K t.d_35 ["top","bottom"] []
 m_36:mg "_law_is_frac"=some (.ref t.a_36)
 F_36:Fun K "_law_is_frac" "_law_is_frac" s_36 t.a_36 t.d_36
 b_36:zaS K t.d_36 ["thing"] []
 m_37:mg "_law_sum"=some (.ref t.a_37)
 F_37:Fun K "_law_sum" "_law_sum" s_37 t.a_37 t.d_37
 b_37:zaS K t.d_37 ["some"] []
 m_39:mg "_law_is_sharing"=some (.ref t.a_39)
 F_39:Fun K "_law_is_sharing" "_law_is_sharing" s_39 t.a_39 t.d_39
 b_39:zaS K t.d_39 ["stock","thing"] []
 m_38:mg "_law_is_bearing"=some (.ref t.a_38)
 F_38:Fun K "_law_is_bearing" "_law_is_bearing" s_38 t.a_38 t.d_38
 b_38:zaS K t.d_38 ["stock","thing"] []
 m_34:mg "_law_holed"=some (.ref t.a_34)
 F_34:Fun K "_law_holed" "_law_holed" s_34 t.a_34 t.d_34
 b_34:zaS K t.d_34 ["box","stock"] []
 m_41:mg "law"=some (.ref t.a_41)
 F_41:Fun K "law" "law" s_41 t.a_41 t.d_41
 b_41:zaS K t.d_41 ["script"] []
section
variable {P:Program} {w:World} {K:W.Frag} {mg:Str->Option Value} {base:Heap} {t:Ad}
theorem sc_27:zau ["script","k"] ["script","k"] (zae s_27):=⟨rfl,rfl,rfl,by decide +kernel,rfl,by decide +kernel,by decide +kernel⟩
theorem ok_27 (T:Tx K mg t):zb6 P w K mg base CX0 1 t.a_27 t.d_27 ["script","k"] (zb9 K 2 F_27):=by
 refine zbF (k:=0) (G:=G_27) (N:=["script","k"]) (ps:=["script","k"]) (st:=s_27) T.F_27 sc_27 fun cdv A outer s H E hr=> ?_
 ext d;ext w;ext m
 exact zgM
 ext k;ext l
 exact zaW
 exact zch
 ext X;ext am;ext h;ext aj;ext al;ext k
 exact zbB
 ext aj;ext ao;ext c
 exact zde
 ext j;ext k;ext j
theorem nd_28:(["script","k","cell","number","mixed","j"]:List Str).Nodup:=by decide +kernel
theorem sc_28:zau ["script","k","cell","number","mixed","j"] ["script","k"] (zae s_28):=⟨rfl,rfl,rfl,by decide +kernel,rfl,by decide +kernel,by decide +kernel⟩
theorem ok_28 (T:Tx K mg t):zb6 P w K mg base CX0 2 t.a_28 t.d_28 ["script","k"] (zb9 K 2 F_28):=by
 have G_27:=ok_27 (P:=P) (w:=w) (base:=base) T
 refine zbF (k:=1) (G:=G_28) (N:=["script","k","cell","number","mixed","j"]) (ps:=["script","k"]) (st:=s_28) T.F_28 sc_28 fun cdv A outer s H E hr=> ?_
 ext d;ext W
 exact nd_28
 refine zaA (k:=1) (g:=t.a_27) (fd:=t.d_27) (ps:=["script","k"]) ?_ ?_ ?_ ?_ ?_ ?_
 exact G_27
 ext b
 exact T.m_27
 exact T.F_27.kp
 exact T.b_27
 ext am;ext an;ext ap;ext w;ext m;ext U;ext c
 exact zdf
 ext v;ext j;ext j;ext aj
 refine zgA ?_
 ext a;ext c
 exact zio
 ext v;ext ak
 exact zbB
 ext d;ext O
 exact nd_28
 ext j;ext d;ext R
 exact nd_28
 ext c
 exact zdf
 ext v;ext j;ext d;ext I;ext J;ext H;ext as;ext a;ext ak
 exact zal 5 nd_28
 ext d;ext R
 exact nd_28
 ext c
 exact zdf
 ext ao;ext ao;ext ao;ext c
 exact zde
 ext K;ext j;ext c
 exact zde
 ext c
 exact zde
 ext j;ext ae;ext ae;ext c
 exact zde
 ext j;ext k;ext j;ext j;ext i;ext O
 exact nd_28
 ext ao;ext c
 exact zde
 ext D;ext j;ext K;ext aj
 refine zgA ?_
 ext aq;ext h
theorem nd_29:(["box","many","digit"]:List Str).Nodup:=by decide +kernel
theorem sc_29:zau ["box","many","digit"] ["box","many"] (zae s_29):=⟨rfl,rfl,rfl,by decide +kernel,rfl,by decide +kernel,by decide +kernel⟩
theorem ok_29 (T:Tx K mg t):zb6 P w K mg base CX0 1 t.a_29 t.d_29 ["box","many"] (zb9 K 2 F_29):=by
 refine zbF (k:=0) (G:=G_29) (N:=["box","many","digit"]) (ps:=["box","many"]) (st:=s_29) T.F_29 sc_29 fun cdv A outer s H E hr=> ?_
 ext d;ext W
 exact nd_29
 ext c
 exact zdf
 ext ax;ext k;ext d;ext af;ext c
 exact zio
 ext ax;ext k
 refine zj2 ?_ ?_
 ext g;ext j;ext aj;ext v
theorem nd_32:(["box","many","way","bits","first","step"]:List Str).Nodup:=by decide +kernel
theorem zrk:(["thing","bits"]:List Str).Nodup:=by decide +kernel
theorem zqU:(["k","first","step","many"]:List Str).Nodup:=by decide +kernel
theorem sc_32:zau ["box","many","way","bits","first","step"] ["box","many"] (zae s_32):=⟨rfl,rfl,rfl,by decide +kernel,rfl,by decide +kernel,by decide +kernel⟩
theorem ok_32 (T:Tx K mg t):zb6 P w K mg base CX0 2 t.a_32 t.d_32 ["box","many"] (zb9 K 2 F_32):=by
 have G_29:=ok_29 (P:=P) (w:=w) (base:=base) T
 refine zbF (k:=1) (G:=G_32) (N:=["box","many","way","bits","first","step"]) (ps:=["box","many"]) (st:=s_32) T.F_32 sc_32 fun cdv A outer s H E hr=> ?_
 ext d;ext W
 exact nd_32
 ext e
 exact G_29
 ext b
 exact T.m_29
 ext Z
 exact T.b_29
 ext am;ext a;ext ak;ext d;ext w;ext m;ext U;ext v;ext j;ext d;ext O
 exact nd_32
 ext ao;ext j;ext e
 exact G_29
 ext b
 exact T.m_29
 ext Z
 exact T.b_29
 ext am;ext a;ext c
 exact zfO
 ext c
 exact zoZ
 ext j;ext k;ext ak;ext aj;ext t
 exact zba
 exact zbh
 ext S;ext a
 refine zbU (N:=["thing","bits"]) ?_ ?_ ?_ ?_ ?_ ?_ ?_
 ext J;ext B;ext q;ext as;ext an;ext h
 intro _ _ _
 exact zal 0 zrk
 intro _ _ _
 refine zgg ?_
 ext m;ext U;ext c
 exact zo0
 ext c
 exact zn3
 ext k;ext g;ext j;ext j
 intro _ _ _
 ext g;ext h
 exact zbB
 ext d;ext af;ext aa;ext a;ext e
 exact G_29
 ext b
 exact T.m_29
 ext Z
 exact T.b_29
 ext am;ext an;ext h;ext a;ext f
 refine zeZ ?_
 ext a;ext j;ext a;ext ao;ext j;ext e
 exact G_29
 ext b
 exact T.m_29
 ext Z
 exact T.b_29
 ext am;ext a;ext ak;ext h;ext c
 exact zfO
 ext v;ext ak;ext av
 exact zal 4 nd_32
 ext r
 exact zal 5 nd_32
 exact zbu
 ext aj;ext t
 exact zba
 exact zbh
 ext S;ext a
 refine zga ?_ ?_ ?_ ?_
 ext J
 exact T.n_sorted
 exact T.n_set
 refine zbU (N:=["k","first","step","many"]) ?_ ?_ ?_ ?_ ?_ ?_ ?_
 ext J;ext B;ext q;ext as;ext a;ext ao;ext j;ext e
 exact G_29
 ext b
 exact T.m_29
 ext Z
 exact T.b_29
 ext am;ext a;ext ak;ext h
 intro _ _ _
 exact zal 0 zqU
 intro _ _ _
 exact zbJ
 intro _ _ _
 ext c
 exact zdf
 ext ao;ext k;ext c
 exact zde
 ext v;ext g;ext D;ext h
theorem nd_33:(["box","most","lots","many","far","rows","thing","row"]:List Str).Nodup:=by decide +kernel
theorem zqB:(["k","box","many","far"]:List Str).Nodup:=by decide +kernel
theorem zpL:(["row","thing"]:List Str).Nodup:=by decide +kernel
theorem zqF:(["row"]:List Str).Nodup:=by decide +kernel
theorem sc_33:zau ["box","most","lots","many","far","rows","thing","row"] ["box","most","lots"] (zae s_33):=⟨rfl,rfl,rfl,by decide +kernel,rfl,by decide +kernel,by decide +kernel⟩
theorem ok_33 (T:Tx K mg t):zb6 P w K mg base CX0 3 t.a_33 t.d_33 ["box","most","lots"] (zb9 K 3 F_33):=by
 have G_29:=ok_29 (P:=P) (w:=w) (base:=base) T
 have G_32:=ok_32 (P:=P) (w:=w) (base:=base) T
 refine zbF (k:=2) (G:=G_33) (N:=["box","most","lots","many","far","rows","thing","row"]) (ps:=["box","most","lots"]) (st:=s_33) T.F_33 sc_33 fun cdv A outer s H E hr=> ?_
 ext d;ext O
 exact nd_33
 ext ao;ext j;ext e
 exact G_29
 ext b
 exact T.m_29
 ext Z
 exact T.b_29
 ext am;ext an;ext ap;ext R
 exact nd_33
 ext f
 refine zeZ ?_
 ext a;ext j;ext a;ext j;ext a;ext j;ext a;ext c
 exact zoJ
 ext j;ext ak;ext e
 exact G_29
 ext b
 exact T.m_29
 ext Z
 exact T.b_29
 ext am;ext a;ext ak;ext d
 refine zdL 5 (N:=["k","box","many","far"]) ?_ ?_ ?_ ?_ ?_ ?_ ?_ ?_
 ext J
 exact nd_33
 ext n;ext q;ext as;ext a;ext ao;ext j;ext e
 exact G_29
 ext b
 exact T.m_29
 ext Z
 exact T.b_29
 ext am;ext a;ext v;ext ay
 intro _ _ _
 exact zal 0 zqB
 intro _ _ _
 exact zbJ
 intro _ _ _
 refine zgA ?_
 ext a
 refine zaA (k:=2) (g:=t.a_32) (fd:=t.d_32) (ps:=["box","many"]) ?_ ?_ ?_ ?_ ?_ ?_
 exact G_32
 ext b
 exact T.m_32
 exact T.F_32.kp
 exact T.b_32
 ext an;ext a;ext v;ext h;ext a;ext ao;ext j;ext e
 exact G_29
 ext b
 exact T.m_29
 ext Z
 exact T.b_29
 ext an;ext aq;ext h;ext ap;ext I;ext J;ext H;ext as;ext aq;ext h
 exact zal 6 nd_33
 ext i;ext w;ext m
 exact (zpM (ze6 hr))
 refine zbU (N:=["row","thing"]) ?_ ?_ ?_ ?_ ?_ ?_ ?_
 ext J;ext n;ext q;ext ag;ext ae
 intro _ _ _
 exact zal 0 zpL
 intro _ _ _
 refine zgg ?_
 ext m
 exact (zkI (ze6 hr))
 ext k;ext ax
 intro _ _ _
 ext g
 refine zeZ ?_
 ext ap
 refine za0 7 ?_ ?_
 exact nd_33
 ext f;ext ae;ext e
 exact G_29
 ext b
 exact T.m_29
 ext Z
 exact T.b_29
 ext am;ext a;ext l
 exact zaW
 exact zch
 ext X;ext a;ext ae;ext ay;ext i;ext af;ext t
 exact zba
 exact zbh
 ext S;ext a
 refine zaV (id:="sorted") ?_ ?_ ?_ ?_
 exact (zgH rfl)
 exact zkV
 exact T.n_sorted
 ext a;ext ao;ext f
 exact zab 7
 ext j;ext aa;ext a
 exact zab 6
 ext ay;ext h
 refine zj2 ?_ ?_
 exact zab 7
 ext j
 exact zbB
 ext aj;ext aa;ext aq;ext a;ext t
 exact zba
 exact zbh
 ext S;ext a
 refine zbU (N:=["row"]) ?_ ?_ ?_ ?_ ?_ ?_ ?_
 ext J;ext n;ext q;ext ag;ext ae
 intro _ _ _
 exact zal 0 zqF
 intro _ _ _
 exact zbJ
 intro _ _ _
 ext aa;ext ar;ext j;ext aw;ext ay
theorem nd_31:(["e","kinds","words"]:List Str).Nodup:=by decide +kernel
theorem zsM:(["kind"]:List Str).Nodup:=by decide +kernel
theorem sc_31:zau ["e","kinds","words"] ["e"] (zae s_31):=⟨rfl,rfl,rfl,by decide +kernel,rfl,by decide +kernel,by decide +kernel⟩
theorem ok_31 (T:Tx K mg t):FnH P w K mg base  1 t.a_31 t.d_31 ["e"] (zb9 K 1 F_31):=by
 refine zqS (k:=0) (G:=G_31) (N:=["e","kinds","words"]) (ps:=["e"]) (st:=s_31) T.F_31 sc_31 fun cdv A outer s H hr=> ?_
 ext d;ext ab
 exact nd_31
 refine zeZ ?_
 ext a
 refine zeC (CE:=t.a_2) (CC:=t.a_3) ?_ ?_ ?_ ?_ ?_ ?_
 ext ac;ext E
 exact T.k_3
 ext u
 exact T.g_3
 ext g;ext a
 refine zeC (CE:=t.a_2) (CC:=t.a_4) ?_ ?_ ?_ ?_ ?_ ?_
 ext ac;ext E
 exact T.k_4
 ext u
 exact T.g_4
 ext g;ext a
 refine zeC (CE:=t.a_2) (CC:=t.a_5) ?_ ?_ ?_ ?_ ?_ ?_
 ext ac;ext E
 exact T.k_5
 ext u
 exact T.g_5
 ext g;ext a
 refine zeC (CE:=t.a_2) (CC:=t.a_6) ?_ ?_ ?_ ?_ ?_ ?_
 ext ac;ext E
 exact T.k_6
 ext u
 exact T.g_6
 ext g;ext ap;ext ab
 exact nd_31
 ext ao;ext k
 refine zeZ ?_
 ext a
 refine zeC (CE:=t.a_2) (CC:=t.a_7) ?_ ?_ ?_ ?_ ?_ ?_
 ext ac;ext E
 exact T.k_7
 ext u
 exact T.g_7
 ext g;ext a
 refine zeC (CE:=t.a_2) (CC:=t.a_8) ?_ ?_ ?_ ?_ ?_ ?_
 ext ac;ext E
 exact T.k_8
 ext u
 exact T.g_8
 ext g;ext a
 refine zeC (CE:=t.a_2) (CC:=t.a_9) ?_ ?_ ?_ ?_ ?_ ?_
 ext ac;ext E
 exact T.k_9
 ext u
 exact T.g_9
 ext g;ext a
 refine zeC (CE:=t.a_2) (CC:=t.a_10) ?_ ?_ ?_ ?_ ?_ ?_
 ext ac;ext E
 exact T.k_10
 ext u
 exact T.g_10
 ext g;ext ap;ext ab
 exact nd_31
 ext ao;ext k
 refine zeZ ?_
 ext a
 refine zeC (CE:=t.a_2) (CC:=t.a_11) ?_ ?_ ?_ ?_ ?_ ?_
 ext ac;ext E
 exact T.k_11
 ext u
 exact T.g_11
 ext g;ext a
 refine zeC (CE:=t.a_2) (CC:=t.a_12) ?_ ?_ ?_ ?_ ?_ ?_
 ext ac;ext E
 exact T.k_12
 ext u
 exact T.g_12
 ext g;ext a
 refine zeC (CE:=t.a_2) (CC:=t.a_13) ?_ ?_ ?_ ?_ ?_ ?_
 ext ac;ext E
 exact T.k_13
 ext u
 exact T.g_13
 ext g;ext ap;ext w
 refine zcI ?_
 ext T;ext az
 refine zqQ (CE:=t.a_2) ?_ ?_ ?_ ?_
 ext ac;ext u
 exact T.n_ValueError
 ext g
 refine zd9 ?_
 ext m
 exact (zc8 (zsX hr))
 refine zaV (id:="sum") ?_ ?_ ?_ ?_
 exact ziY
 exact zqT
 exact T.n_sum
 ext a
 refine zo4 (N:=["kind"]) ?_ ?_ ?_ ?_ ?_ ?_
 exact (BOk.of (Xn:=(zae s_31).names) (XN:=["e","kinds","words"]) rfl rfl rfl (by decide +kernel))
 ext q;ext ag;ext k
 intro _ _ _
 exact zal 0 zsM
 intro _ _ _
 exact zbJ
 intro _ _ _
 refine zbt (T:="int") ?_ ?_ ?_ ?_
 exact ziC
 exact zmJ
 exact T.n_int
 ext am;ext ay;ext j;ext aj
 exact zdy
 exact zbB
 ext d;ext W
 exact nd_31
 refine zeZ ?_
 ext a
 exact zdy
 ext a
 exact zdy
 ext a
 exact zdy
 ext a
 exact zdy
 ext a
 exact zdy
 ext a
 exact zdy
 ext a
 exact zdy
 ext a
 exact zdy
 ext a
 exact zdy
 ext a
 exact zdy
 ext a
 exact zdy
 ext h;ext aj;ext ao
 exact zdy
 ext f;ext v
 refine zn9 ?_
 ext k
theorem nd_16:(["offers","things","offer"]:List Str).Nodup:=by decide +kernel
theorem sc_16:zau ["offers","things","offer"] ["offers"] (zae s_16):=⟨rfl,rfl,rfl,by decide +kernel,rfl,by decide +kernel,by decide +kernel⟩
theorem ok_16 (T:Tx K mg t):zb6 P w K mg base CX0 1 t.a_16 t.d_16 ["offers"] (zb9 K 1 F_16):=by
 refine zbF (k:=0) (G:=G_16) (N:=["offers","things","offer"]) (ps:=["offers"]) (st:=s_16) T.F_16 sc_16 fun cdv A outer s H E hr=> ?_
 ext d;ext ab
 exact nd_16
 refine zgA ?_
 ext ap;ext I;ext J;ext H;ext ag;ext g
 exact zal 2 nd_16
 ext i
 refine zh8 ?_
 refine zmm ?_ ?_
 ext k;ext f;ext v;ext j;ext aj;ext t
 exact zba
 exact zbh
 ext S;ext a
 refine zga ?_ ?_ ?_ ?_
 ext J
 exact T.n_sorted
 exact T.n_set
 ext k;ext h
theorem sc_17:zau ["stock","offers"] ["stock","offers"] (zae s_17):=⟨rfl,rfl,rfl,by decide +kernel,rfl,by decide +kernel,by decide +kernel⟩
theorem ok_17 (T:Tx K mg t):zb6 P w K mg base CX0 2 t.a_17 t.d_17 ["stock","offers"] (zb9 K 2 F_17):=by
 have G_16:=ok_16 (P:=P) (w:=w) (base:=base) T
 refine zbF (k:=1) (G:=G_17) (N:=["stock","offers"]) (ps:=["stock","offers"]) (st:=s_17) T.F_17 sc_17 fun cdv A outer s H E hr=> ?_
 ext aj;ext Y;ext U;ext l
 exact zaW
 exact zch
 ext X;ext a
 refine zaA (k:=1) (g:=t.a_16) (fd:=t.d_16) (ps:=["offers"]) ?_ ?_ ?_ ?_ ?_ ?_
 exact G_16
 ext b
 exact T.m_16
 exact T.F_16.kp
 exact T.b_16
 ext an;ext ay;ext ax
theorem sc_14:zau ["stock"] ["stock"] (zae s_14):=⟨rfl,rfl,rfl,by decide +kernel,rfl,by decide +kernel,by decide +kernel⟩
theorem ok_14 (T:Tx K mg t):zb6 P w K mg base CX0 3 t.a_14 t.d_14 ["stock"] (zb9 K 1 F_14):=by
 have G_17:=ok_17 (P:=P) (w:=w) (base:=base) T
 refine zbF (k:=2) (G:=G_14) (N:=["stock"]) (ps:=["stock"]) (st:=s_14) T.F_14 sc_14 fun cdv A outer s H E hr=> ?_
 ext aj
 refine zaA (k:=2) (g:=t.a_17) (fd:=t.d_17) (ps:=["stock","offers"]) ?_ ?_ ?_ ?_ ?_ ?_
 exact G_17
 ext b
 exact T.m_17
 exact T.F_17.kp
 exact T.b_17
 ext am;ext aw
theorem sc_15:zau ["stock"] ["stock"] (zae s_15):=⟨rfl,rfl,rfl,by decide +kernel,rfl,by decide +kernel,by decide +kernel⟩
theorem ok_15 (T:Tx K mg t):zb6 P w K mg base (CXE P w) 4 t.a_15 t.d_15 ["stock"] (spE K 1 F_15):=by
 have G_14:=ok_14 (P:=P) (w:=w) (base:=base) T
 refine znn (k:=3) (G:=G_15) (N:=["stock"]) (ps:=["stock"]) (st:=s_15) T.F_15 sc_15 fun cdv A outer s H E hr=> ?_
 ext i;ext w;ext az
 refine zeq (k:=3) (g:=t.a_14) (fd:=t.d_14) (ps:=["stock"]) ?_ ?_ ?_ ?_ ?_ ?_
 exact G_14
 ext b
 exact T.m_14
 exact T.F_14.kp
 exact T.b_14
 ext am;ext h;ext i
 exact zpr (c:="NotFull") rfl zlz T.x_exc (by decide +kernel) T.k_9
 exact zbB
theorem nd_19:(["stock","rows","count","number","offer","things"]:List Str).Nodup:=by decide +kernel
theorem ztO:(["thing","offer"]:List Str).Nodup:=by decide +kernel
theorem zs7:(["other","number"]:List Str).Nodup:=by decide +kernel
theorem sc_19:zau ["stock","rows","count","number","offer","things"] ["stock"] (zae s_19):=⟨rfl,rfl,rfl,by decide +kernel,rfl,by decide +kernel,by decide +kernel⟩
theorem ok_19 (T:Tx K mg t):zb6 P w K mg base CX0 1 t.a_19 t.d_19 ["stock"] (zb9 K 1 F_19):=by
 refine zbF (k:=0) (G:=G_19) (N:=["stock","rows","count","number","offer","things"]) (ps:=["stock"]) (st:=s_19) T.F_19 sc_19 fun cdv A outer s H E hr=> ?_
 ext d;ext ab
 exact nd_19
 refine zgA ?_
 ext ap;ext W
 exact nd_19
 ext l
 exact zaW
 exact zch
 ext X;ext aw;ext d;ext I;ext J;ext H
 refine zse ?_ ?_
 exact T.n_enumerate
 ext ax;ext av
 exact zal 3 nd_19
 ext r
 exact zal 4 nd_19
 exact zbu
 ext d
 refine zdL 5 (N:=["thing","offer"]) ?_ ?_ ?_ ?_ ?_ ?_ ?_ ?_
 ext J
 exact nd_19
 ext x;ext q;ext as;ext aw
 intro _ _ _
 exact zal 0 ztO
 intro _ _ _
 exact zbJ
 intro _ _ _
 refine zoX ?_ ?_ ?_
 ext m
 exact (zkI (ze6 hr))
 ext g;ext f;ext k;ext j;ext j;ext j;ext i
 refine zh8 ?_
 refine zh1 ?_ ?_
 ext k;ext ao;ext ao;ext ae
 refine zbU (N:=["other","number"]) ?_ ?_ ?_ ?_ ?_ ?_ ?_
 ext J;ext x;ext q;ext as;ext a;ext v;ext h
 intro _ _ _
 exact zal 0 zs7
 intro _ _ _
 exact zbJ
 intro _ _ _
 refine zoX ?_ ?_ ?_
 ext m;ext U;ext g;ext k;ext j;ext j
 refine zeZ ?_
 ext a;ext f;ext K;ext ak;ext d
 refine zh8 ?_
 refine zh1 ?_ ?_
 ext k;ext ao;ext c
 exact zj7
 refine zeZ ?_
 ext a
 refine ziR ?_
 ext ak;ext ax;ext c
 exact zj7
 refine zeZ ?_
 ext a;ext ak;ext ao;ext v;ext j;ext aj
 refine zrS ?_
 ext k
theorem nd_20:(["rows","goal","column"]:List Str).Nodup:=by decide +kernel
theorem sc_20:zau ["rows","goal","column"] ["rows"] (zae s_20):=⟨rfl,rfl,rfl,by decide +kernel,rfl,by decide +kernel,by decide +kernel⟩
theorem ok_20 (T:Tx K mg t):zb6 P w K mg base CX0 1 t.a_20 t.d_20 ["rows"] (zb9 K 1 F_20):=by
 refine zbF (k:=0) (G:=G_20) (N:=["rows","goal","column"]) (ps:=["rows"]) (st:=s_20) T.F_20 sc_20 fun cdv A outer s H E hr=> ?_
 ext d;ext ab
 exact nd_20
 ext al
 refine ziR ?_
 ext j;ext d;ext I;ext J;ext H;ext as;ext a;ext c
 exact zfO
 ext l
 exact zaW
 exact zch
 ext X;ext an;ext h;ext ak
 exact zal 2 nd_20
 ext i;ext w;ext m
 exact zgM
 ext f;ext k;ext v;ext j;ext aj;ext v
 exact zbB
 ext aj
 exact zmp
theorem nd_22:(["rows","basis","column","place","best","room","other"]:List Str).Nodup:=by decide +kernel
theorem sc_22:zau ["rows","basis","column","place","best","room","other"] ["rows","basis","column","place","best"] (zae s_22):=⟨rfl,rfl,rfl,by decide +kernel,rfl,by decide +kernel,by decide +kernel⟩
theorem ok_22 (T:Tx K mg t):zb6 P w K mg base CX0 1 t.a_22 t.d_22 ["rows","basis","column","place","best"] (zb9 K 5 F_22):=by
 refine zbF (k:=0) (G:=G_22) (N:=["rows","basis","column","place","best","room","other"]) (ps:=["rows","basis","column","place","best"]) (st:=s_22) T.F_22 sc_22 fun cdv A outer s H E hr=> ?_
 ext d
 refine za0 5 ?_ ?_
 exact nd_22
 ext c
 exact zcC
 ext f;ext al;ext D
 refine ziR ?_
 ext j;ext f;ext al;ext K;ext v;ext d
 refine za0 6 ?_ ?_
 exact nd_22
 ext c
 exact zcC
 ext f;ext al;ext K
 refine ziR ?_
 ext j;ext f;ext al;ext D;ext v;ext aj
 refine zuH ?_ ?_
 ext Y
 exact zgM
 ext ae
 exact zab 6
 refine zi3 ?_
 refine zkt ?_ ?_
 ext Y;ext U;ext ae
 exact zab 6
 refine zi3 ?_
 ext Y
 exact zgM
 ext f;ext k;ext D;ext f;ext k;ext K
theorem nd_21:(["rows","basis","column","best","place"]:List Str).Nodup:=by decide +kernel
theorem sc_21:zau ["rows","basis","column","best","place"] ["rows","basis","column"] (zae s_21):=⟨rfl,rfl,rfl,by decide +kernel,rfl,by decide +kernel,by decide +kernel⟩
theorem ok_21 (T:Tx K mg t):zb6 P w K mg base CX0 2 t.a_21 t.d_21 ["rows","basis","column"] (zb9 K 3 F_21):=by
 have G_22:=ok_22 (P:=P) (w:=w) (base:=base) T
 refine zbF (k:=1) (G:=G_21) (N:=["rows","basis","column","best","place"]) (ps:=["rows","basis","column"]) (st:=s_21) T.F_21 sc_21 fun cdv A outer s H E hr=> ?_
 ext d;ext O
 exact nd_21
 exact zmp
 ext d;ext I;ext J;ext H;ext as;ext a;ext l
 exact zaW
 exact zch
 ext X;ext an;ext ay
 exact zal 4 nd_21
 ext i;ext w
 refine zcI ?_
 refine zpX ?_ ?_
 ext m
 exact zgh
 ext f;ext al;ext K;ext v;ext j
 refine zn0 ?_
 refine zcI ?_
 ext T;ext m
 exact zm2
 ext D
 exact zmp
 refine zd9 ?_
 ext ad
 refine zaA (k:=1) (g:=t.a_22) (fd:=t.d_22) (ps:=["rows","basis","column","place","best"]) ?_ ?_ ?_ ?_ ?_ ?_
 exact G_22
 ext b
 exact T.m_22
 exact T.F_22.kp
 exact T.b_22
 ext am;ext an;ext a;ext v;ext a;ext K;ext aq;ext h;ext i;ext O
 exact nd_21
 ext K
 exact zbB
 ext aj;ext D
theorem zq8:(["one","other","chosen","column","row","bottom"]:List Str).Nodup:=by decide +kernel
theorem sc_24:zau ["row","chosen","column","bottom"] ["row","chosen","column","bottom"] (zae s_24):=⟨rfl,rfl,rfl,by decide +kernel,rfl,by decide +kernel,by decide +kernel⟩
theorem ok_24 (T:Tx K mg t):zb6 P w K mg base CX0 1 t.a_24 t.d_24 ["row","chosen","column","bottom"] (zb9 K 4 F_24):=by
 refine zbF (k:=0) (G:=G_24) (N:=["row","chosen","column","bottom"]) (ps:=["row","chosen","column","bottom"]) (st:=s_24) T.F_24 sc_24 fun cdv A outer s H E hr=> ?_
 ext aj
 refine zbU (N:=["one","other","chosen","column","row","bottom"]) ?_ ?_ ?_ ?_ ?_ ?_ ?_
 ext J
 exact (BOk.of (Xn:=(zae s_24).names) (XN:=["row","chosen","column","bottom"]) rfl rfl rfl (by decide +kernel))
 ext o
 refine zq6 ?_ ?_
 exact T.n_zip
 ext am;ext an;ext h
 intro _ _ _
 ext av
 exact zal 0 zq8
 ext r
 exact zal 1 zq8
 exact zbu
 intro _ _ _
 exact zbJ
 intro _ _ _
 ext c
 exact zdF
 ext c
 exact zfO
 ext c
 exact zcC
 ext g;ext f;ext v;ext D;ext c
 exact zcC
 ext k;ext f;ext K;ext D;ext ae
theorem nd_23:(["rows","place","column","bottom","chosen"]:List Str).Nodup:=by decide +kernel
theorem zq9:(["number","row","place","chosen","column","bottom"]:List Str).Nodup:=by decide +kernel
theorem sc_23:zau ["rows","place","column","bottom","chosen"] ["rows","place","column","bottom"] (zae s_23):=⟨rfl,rfl,rfl,by decide +kernel,rfl,by decide +kernel,by decide +kernel⟩
theorem ok_23 (T:Tx K mg t):zb6 P w K mg base CX0 2 t.a_23 t.d_23 ["rows","place","column","bottom"] (zb9 K 4 F_23):=by
 have G_24:=ok_24 (P:=P) (w:=w) (base:=base) T
 refine zbF (k:=1) (G:=G_23) (N:=["rows","place","column","bottom","chosen"]) (ps:=["rows","place","column","bottom"]) (st:=s_23) T.F_23 sc_23 fun cdv A outer s H E hr=> ?_
 ext d;ext R
 exact nd_23
 ext al;ext k;ext aj
 refine zbU (N:=["number","row","place","chosen","column","bottom"]) ?_ ?_ ?_ ?_ ?_ ?_ ?_
 ext J
 exact (BOk.of (Xn:=(zae s_23).names) (XN:=["rows","place","column","bottom","chosen"]) rfl rfl rfl (by decide +kernel))
 ext o
 refine zjF ?_ ?_
 exact T.n_enumerate
 ext g
 intro _ _ _
 ext av
 exact zal 0 zq9
 ext r
 exact zal 1 zq9
 exact zbu
 intro _ _ _
 exact zbJ
 intro _ _ _
 refine zoX ?_ ?_ ?_
 ext m;ext U;ext g;ext v;ext k
 refine zaA (k:=1) (g:=t.a_24) (fd:=t.d_24) (ps:=["row","chosen","column","bottom"]) ?_ ?_ ?_ ?_ ?_ ?_
 exact G_24
 ext b
 exact T.m_24
 exact T.F_24.kp
 exact T.b_24
 ext an;ext aq;ext a;ext K;ext a;ext ae;ext h
theorem nd_1:(["top","bottom","one","other","rest"]:List Str).Nodup:=by decide +kernel
theorem sc_1:zau ["top","bottom","one","other","rest"] ["top","bottom"] (zae s_1):=⟨rfl,rfl,rfl,by decide +kernel,rfl,by decide +kernel,by decide +kernel⟩
theorem ok_1 (T:Tx K mg t):zb6 P w K mg base CX0 1 t.a_1 t.d_1 ["top","bottom"] (zb9 K 2 F_1):=by
 refine zbF (k:=0) (G:=G_1) (N:=["top","bottom","one","other","rest"]) (ps:=["top","bottom"]) (st:=s_1) T.F_1 sc_1 fun cdv A outer s H E hr=> ?_
 ext d;ext W
 exact nd_1
 ext g;ext d;ext O
 exact nd_1
 ext k;ext d
 refine zhz 20000 ?_ ?_ ?_
 ext H;ext m
 exact zgh
 ext D;ext j;ext d;ext R
 exact nd_1
 ext c
 exact zdf
 ext v;ext D;ext d;ext W
 exact nd_1
 ext D;ext i;ext O
 exact nd_1
 ext K;ext aj;ext v
theorem nd_0:(["top","bottom","shared"]:List Str).Nodup:=by decide +kernel
theorem sc_0:zau ["top","bottom","shared"] ["top","bottom"] (zae s_0):=⟨rfl,rfl,rfl,by decide +kernel,rfl,by decide +kernel,by decide +kernel⟩
theorem ok_0 (T:Tx K mg t):zb6 P w K mg base CX0 2 t.a_0 t.d_0 ["top","bottom"] (zb9 K 2 F_0):=by
 have G_1:=ok_1 (P:=P) (w:=w) (base:=base) T
 refine zbF (k:=1) (G:=G_0) (N:=["top","bottom","shared"]) (ps:=["top","bottom"]) (st:=s_0) T.F_0 sc_0 fun cdv A outer s H E hr=> ?_
 ext d;ext W
 exact nd_0
 refine zaA (k:=1) (g:=t.a_1) (fd:=t.d_1) (ps:=["top","bottom"]) ?_ ?_ ?_ ?_ ?_ ?_
 exact G_1
 ext b
 exact T.m_1
 exact T.F_1.kp
 exact T.b_1
 ext am;ext an;ext h;ext aj;ext aa;ext a;ext c
 exact zdF
 ext g;ext v;ext a;ext c
 exact zdF
 ext k;ext v;ext h
theorem nd_25:(["stock","rows","basis","bottom","borne"]:List Str).Nodup:=by decide +kernel
theorem zss:(["place","column","rows"]:List Str).Nodup:=by decide +kernel
theorem ztq:(["thing","borne","bottom"]:List Str).Nodup:=by decide +kernel
theorem sc_25:zau ["stock","rows","basis","bottom","borne"] ["stock","rows","basis","bottom"] (zae s_25):=⟨rfl,rfl,rfl,by decide +kernel,rfl,by decide +kernel,by decide +kernel⟩
theorem ok_25 (T:Tx K mg t):zb6 P w K mg base CX0 3 t.a_25 t.d_25 ["stock","rows","basis","bottom"] (zb9 K 4 F_25):=by
 have G_0:=ok_0 (P:=P) (w:=w) (base:=base) T
 refine zbF (k:=2) (G:=G_25) (N:=["stock","rows","basis","bottom","borne"]) (ps:=["stock","rows","basis","bottom"]) (st:=s_25) T.F_25 sc_25 fun cdv A outer s H E hr=> ?_
 ext d;ext R
 exact nd_25
 refine zbt (T:="dict") ?_ ?_ ?_ ?_
 exact (ziF rfl)
 exact zpb
 exact T.n_dict
 ext a
 refine zbU (N:=["place","column","rows"]) ?_ ?_ ?_ ?_ ?_ ?_ ?_
 ext J;ext C;ext o
 refine zjF ?_ ?_
 exact T.n_enumerate
 ext v
 intro _ _ _
 ext av
 exact zal 0 zss
 ext r
 exact zal 1 zss
 exact zbu
 intro _ _ _
 exact zbJ
 intro _ _ _
 ext aa;ext an;ext a;ext f;ext f;ext v;ext g
 refine ziR ?_
 ext ak;ext h;ext aj;ext t
 exact zba
 exact zbh
 ext S;ext a
 refine zbU (N:=["thing","borne","bottom"]) ?_ ?_ ?_ ?_ ?_ ?_ ?_
 ext J;ext C;ext q;ext as;ext aw
 intro _ _ _
 exact zal 0 ztq
 intro _ _ _
 exact zbJ
 intro _ _ _
 ext N
 exact G_0
 ext b
 exact T.m_0
 exact T.F_0.kp
 exact T.b_0
 ext a
 refine zrX ?_ ?_
 ext k;ext am;ext a;ext ak;ext a;ext v;ext ay
theorem zto:(["number","rows","stock","bottom"]:List Str).Nodup:=by decide +kernel
theorem sc_26:zau ["stock","rows","bottom"] ["stock","rows","bottom"] (zae s_26):=⟨rfl,rfl,rfl,by decide +kernel,rfl,by decide +kernel,by decide +kernel⟩
theorem ok_26 (T:Tx K mg t):zb6 P w K mg base CX0 3 t.a_26 t.d_26 ["stock","rows","bottom"] (zb9 K 3 F_26):=by
 have G_0:=ok_0 (P:=P) (w:=w) (base:=base) T
 refine zbF (k:=2) (G:=G_26) (N:=["stock","rows","bottom"]) (ps:=["stock","rows","bottom"]) (st:=s_26) T.F_26 sc_26 fun cdv A outer s H E hr=> ?_
 ext aj;ext t
 exact zba
 exact zbh
 ext S;ext a
 refine zbU (N:=["number","rows","stock","bottom"]) ?_ ?_ ?_ ?_ ?_ ?_ ?_
 ext J
 exact (BOk.of (Xn:=(zae s_26).names) (XN:=["stock","rows","bottom"]) rfl rfl rfl (by decide +kernel))
 ext q;ext as;ext a;ext l
 exact zaW
 exact zch
 ext X;ext aw;ext h
 intro _ _ _
 exact zal 0 zto
 intro _ _ _
 exact zbJ
 intro _ _ _
 ext N
 exact G_0
 ext b
 exact T.m_0
 exact T.F_0.kp
 exact T.b_0
 ext a;ext f;ext f;ext k
 refine ziR ?_
 ext j;ext ao;ext f;ext v;ext j;ext g;ext aq;ext ay
theorem nd_18:(["stock","rows","basis","bottom","column","place"]:List Str).Nodup:=by decide +kernel
theorem ztE:(["number","stock"]:List Str).Nodup:=by decide +kernel
theorem sc_18:zau ["stock","rows","basis","bottom","column","place"] ["stock"] (zae s_18):=⟨rfl,rfl,rfl,by decide +kernel,rfl,by decide +kernel,by decide +kernel⟩
theorem ok_18 (T:Tx K mg t):zb6 P w K mg base (CXE P w) 5 t.a_18 t.d_18 ["stock"] (spE K 1 F_18):=by
 have G_15:=ok_15 (P:=P) (w:=w) (base:=base) T
 have G_19:=ok_19 (P:=P) (w:=w) (base:=base) T
 have G_20:=ok_20 (P:=P) (w:=w) (base:=base) T
 have G_21:=ok_21 (P:=P) (w:=w) (base:=base) T
 have G_23:=ok_23 (P:=P) (w:=w) (base:=base) T
 have G_25:=ok_25 (P:=P) (w:=w) (base:=base) T
 have G_26:=ok_26 (P:=P) (w:=w) (base:=base) T
 refine znn (k:=4) (G:=G_18) (N:=["stock","rows","basis","bottom","column","place"]) (ps:=["stock"]) (st:=s_18) T.F_18 sc_18 fun cdv A outer s H E hr=> ?_
 ext d
 refine zh8 ?_
 refine zjj (k:=4) (g:=t.a_15) (fd:=t.d_15) (ps:=["stock"]) ?_ ?_ ?_ ?_ ?_ ?_ ?_
 exact G_15
 exact zot
 ext b
 exact T.m_15
 exact T.F_15.kp
 exact T.b_15
 ext am;ext ap;ext ab
 exact nd_18
 refine zeq (k:=1) (g:=t.a_19) (fd:=t.d_19) (ps:=["stock"]) ?_ ?_ ?_ ?_ ?_ ?_
 exact G_19
 ext b
 exact T.m_19
 exact T.F_19.kp
 exact T.b_19
 ext am;ext ap
 refine znk ?_
 refine ziX 2 (N:=["number","stock"]) ?_ ?_ ?_ ?_ ?_ ?_ ?_ ?_
 ext J
 exact nd_18
 exact (BOk.of (Xn:=(zae s_18).names) (XN:=["stock","rows","basis","bottom","column","place"]) rfl rfl rfl (by decide +kernel))
 ext q;ext as;ext a;ext l
 exact zaW
 exact zch
 ext X;ext aw;ext h
 intro _ _ _
 exact zal 0 ztE
 intro _ _ _
 exact zbJ
 intro _ _ _
 ext ao;ext f;ext k;ext j;ext g;ext d;ext O
 exact nd_18
 ext j;ext d;ext R
 exact nd_18
 refine zeq (k:=1) (g:=t.a_20) (fd:=t.d_20) (ps:=["rows"]) ?_ ?_ ?_ ?_ ?_ ?_
 exact G_20
 ext b
 exact T.m_20
 exact T.F_20.kp
 exact T.b_20
 ext an;ext ap
 refine znk ?_
 refine zhz 100000000000000000 ?_ ?_ ?_
 ext H;ext m
 exact zos
 ext K
 exact zmp
 ext d
 refine za0 5 ?_ ?_
 exact nd_18
 refine zaA (k:=2) (g:=t.a_21) (fd:=t.d_21) (ps:=["rows","basis","column"]) ?_ ?_ ?_ ?_ ?_ ?_
 exact G_21
 ext b
 exact T.m_21
 exact T.F_21.kp
 exact T.b_21
 ext an;ext a;ext v;ext a;ext K;ext ap;ext ab
 exact nd_18
 refine zaA (k:=2) (g:=t.a_23) (fd:=t.d_23) (ps:=["rows","place","column","bottom"]) ?_ ?_ ?_ ?_ ?_ ?_
 exact G_23
 ext b
 exact T.m_23
 exact T.F_23.kp
 exact T.b_23
 ext an;ext a;ext ae;ext a;ext K;ext aq;ext ap;ext O
 exact nd_18
 ext f;ext f;ext k;ext ae;ext K;ext d;ext af;ext K
 refine zj2 ?_ ?_
 ext v;ext ae;ext i;ext R
 exact nd_18
 refine zaA (k:=1) (g:=t.a_20) (fd:=t.d_20) (ps:=["rows"]) ?_ ?_ ?_ ?_ ?_ ?_
 exact G_20
 ext b
 exact T.m_20
 exact T.F_20.kp
 exact T.b_20
 ext an;ext h;ext aj;ext aa;ext a
 refine zeq (k:=3) (g:=t.a_25) (fd:=t.d_25) (ps:=["stock","rows","basis","bottom"]) ?_ ?_ ?_ ?_ ?_ ?_
 exact G_25
 ext b
 exact T.m_25
 exact T.F_25.kp
 exact T.b_25
 ext am;ext an;ext a
 refine zrS ?_
 ext v;ext aq;ext h;ext a
 refine zeq (k:=3) (g:=t.a_26) (fd:=t.d_26) (ps:=["stock","rows","bottom"]) ?_ ?_ ?_ ?_ ?_ ?_
 exact G_26
 ext b
 exact T.m_26
 exact T.F_26.kp
 exact T.b_26
 ext am;ext an;ext aq;ext ay
theorem nd_40:(["stock","e"]:List Str).Nodup:=by decide +kernel
theorem sc_40:zau ["stock","e"] ["stock"] (zae s_40):=⟨rfl,rfl,rfl,by decide +kernel,rfl,by decide +kernel,by decide +kernel⟩
theorem ok_40 (T:Tx K mg t):zb6 P w K mg base CX0 6 t.a_40 t.d_40 ["stock"] (zb9 K 1 F_40):=by
 have G_31:=ok_31 (P:=P) (w:=w) (base:=base) T
 have G_18:=ok_18 (P:=P) (w:=w) (base:=base) T
 refine zbF (k:=5) (G:=G_40) (N:=["stock","e"]) (ps:=["stock"]) (st:=s_40) T.F_40 sc_40 fun cdv A outer s H E hr=> ?_
 ext i
 refine zq5 (CE:=t.a_2) (pe:="e") (k:=1) (fdk:=t.d_31) (fk:=t.a_31) 1 ?_ ?_ ?_ ?_ ?_ ?_ ?_ ?_ ?_ ?_
 exact zrr
 exact nd_40
 exact T.g_2
 ext ac
 exact G_31
 exact T.b_31
 exact T.m_31
 exact T.F_31.kp
 exact (zdM.of (hr.mono (by decide)))
 intro pn xe E' hx
 ext aj
 refine zjj (k:=5) (g:=t.a_18) (fd:=t.d_18) (ps:=["stock"]) ?_ ?_ ?_ ?_ ?_ ?_ ?_
 exact G_18
 exact hx
 ext b
 exact T.m_18
 exact T.F_18.kp
 exact T.b_18
 ext am;ext h
theorem sc_30:zau ["thing"] ["thing"] (zae s_30):=⟨rfl,rfl,rfl,by decide +kernel,rfl,by decide +kernel,by decide +kernel⟩
theorem ok_30 (T:Tx K mg t):zb6 P w K mg base CX0 1 t.a_30 t.d_30 ["thing"] (zb9 K 1 F_30):=by
 refine zbF (k:=0) (G:=G_30) (N:=["thing"]) (ps:=["thing"]) (st:=s_30) T.F_30 sc_30 fun cdv A outer s H E hr=> ?_
 ext aj
 refine zkt ?_ ?_
 ext V
 exact zoV
 exact zmJ
 ext u
 exact T.n_int
 ext g
 refine zi3 ?_
 refine ztI ?_
 ext V
 exact zlX
 exact zoI
 ext u
 exact T.n_bool
 ext g
theorem nd_35:(["top","bottom","one","other"]:List Str).Nodup:=by decide +kernel
theorem sc_35:zau ["top","bottom","one","other"] ["top","bottom"] (zae s_35):=⟨rfl,rfl,rfl,by decide +kernel,rfl,by decide +kernel,by decide +kernel⟩
theorem ok_35 (T:Tx K mg t):zb6 P w K mg base CX0 1 t.a_35 t.d_35 ["top","bottom"] (zb9 K 2 F_35):=by
 refine zbF (k:=0) (G:=G_35) (N:=["top","bottom","one","other"]) (ps:=["top","bottom"]) (st:=s_35) T.F_35 sc_35 fun cdv A outer s H E hr=> ?_
 ext d
 refine zsj 2 3 ?_ ?_ ?_
 ext J
 exact nd_35
 ext a
 refine zaV (id:="abs") ?_ ?_ ?_ ?_
 exact zgX
 exact znq
 exact T.n_abs
 ext am;ext h;ext a
 refine zaV (id:="abs") ?_ ?_ ?_ ?_
 exact zgX
 exact znq
 exact T.n_abs
 ext an;ext h;ext ap
 refine zhz 20000 ?_ ?_ ?_
 ext H;ext m
 exact zgh
 ext D;ext j;ext i
 refine zsj 2 3 ?_ ?_ ?_
 ext J
 exact nd_35
 ext aq;ext a;ext c
 exact zdf
 ext v;ext D;ext h;ext aj;ext aa;ext a;ext c
 exact zdF
 ext g;ext v;ext a;ext c
 exact zdF
 ext k;ext v;ext h
theorem sc_36:zau ["thing"] ["thing"] (zae s_36):=⟨rfl,rfl,rfl,by decide +kernel,rfl,by decide +kernel,by decide +kernel⟩
theorem ok_36 (T:Tx K mg t):zb6 P w K mg base CX0 2 t.a_36 t.d_36 ["thing"] (zb9 K 1 F_36):=by
 have G_30:=ok_30 (P:=P) (w:=w) (base:=base) T
 have G_35:=ok_35 (P:=P) (w:=w) (base:=base) T
 refine zbF (k:=1) (G:=G_36) (N:=["thing"]) (ps:=["thing"]) (st:=s_36) T.F_36 sc_36 fun cdv A outer s H E hr=> ?_
 ext d;ext w
 refine zcI ?_
 ext T;ext az;ext V
 exact zdw
 exact zbh
 ext u;ext S;ext g;ext T;ext m;ext Q;ext l
 exact zaW
 exact zch
 ext X;ext am;ext h;ext j;ext T;ext az
 refine zaA (k:=1) (g:=t.a_30) (fd:=t.d_30) (ps:=["thing"]) ?_ ?_ ?_ ?_ ?_ ?_
 exact G_30
 ext b
 exact T.m_30
 exact T.F_30.kp
 exact T.b_30
 ext aw
 refine zd9 ?_
 ext az
 refine zaA (k:=1) (g:=t.a_30) (fd:=t.d_30) (ps:=["thing"]) ?_ ?_ ?_ ?_ ?_ ?_
 exact G_30
 ext b
 exact T.m_30
 exact T.F_30.kp
 exact T.b_30
 ext aw;ext aj
 exact ziT
 exact zbB
 ext aj
 refine zkt ?_ ?_
 ext Y
 exact zgh
 ext ax;ext j
 refine zi3 ?_
 ext Y;ext U;ext z
 exact G_35
 ext b
 exact T.m_35
 exact T.F_35.kp
 exact T.b_35
 ext ar;ext j;ext aw;ext g
theorem nd_37:(["some","top","bottom","one"]:List Str).Nodup:=by decide +kernel
theorem sc_37:zau ["some","top","bottom","one"] ["some"] (zae s_37):=⟨rfl,rfl,rfl,by decide +kernel,rfl,by decide +kernel,by decide +kernel⟩
theorem ok_37 (T:Tx K mg t):zb6 P w K mg base CX0 2 t.a_37 t.d_37 ["some"] (zb9 K 1 F_37):=by
 have G_35:=ok_35 (P:=P) (w:=w) (base:=base) T
 refine zbF (k:=1) (G:=G_37) (N:=["some","top","bottom","one"]) (ps:=["some"]) (st:=s_37) T.F_37 sc_37 fun cdv A outer s H E hr=> ?_
 ext d;ext af;ext aa;ext a;ext j;ext a;ext ak;ext av
 exact zal 1 nd_37
 ext r
 exact zal 2 nd_37
 exact zbu
 ext d;ext I;ext J;ext H;ext ag;ext g
 exact zal 3 nd_37
 ext i;ext af;ext z
 exact G_35
 ext b
 exact T.m_35
 exact T.F_35.kp
 exact T.b_35
 ext a;ext ao;ext c
 exact zcC
 ext k;ext f;ext D;ext j;ext c
 exact zcC
 ext f;ext D;ext j;ext v;ext a;ext c
 exact zcC
 ext v;ext f;ext D;ext ak;ext av
 exact zal 1 nd_37
 ext r
 exact zal 2 nd_37
 exact zbu
 ext aj;ext aa;ext an;ext a;ext v;ext h
theorem nd_39:(["stock","thing","one","top","bottom"]:List Str).Nodup:=by decide +kernel
theorem zqa:(["one"]:List Str).Nodup:=by decide +kernel
theorem zm6:(["share","offer","one"]:List Str).Nodup:=by decide +kernel
theorem sc_39:zau ["stock","thing","one","top","bottom"] ["stock","thing"] (zae s_39):=⟨rfl,rfl,rfl,by decide +kernel,rfl,by decide +kernel,by decide +kernel⟩
theorem ok_39 (T:Tx K mg t):zb6 P w K mg base CX0 3 t.a_39 t.d_39 ["stock","thing"] (zb9 K 2 F_39):=by
 have G_36:=ok_36 (P:=P) (w:=w) (base:=base) T
 have G_37:=ok_37 (P:=P) (w:=w) (base:=base) T
 refine zbF (k:=2) (G:=G_39) (N:=["stock","thing","one","top","bottom"]) (ps:=["stock","thing"]) (st:=s_39) T.F_39 sc_39 fun cdv A outer s H E hr=> ?_
 ext d;ext w
 refine zcI ?_
 ext T;ext az;ext V
 exact zdw
 exact zbh
 ext u;ext S;ext k
 refine zd9 ?_
 ext m;ext Q;ext l
 exact zaW
 exact zch
 ext X;ext an;ext h;ext l
 exact zaW
 exact zch
 ext X;ext aw;ext aj
 exact ziT
 exact zbB
 ext d;ext w;ext az
 refine zaV (id:="all") ?_ ?_ ?_ ?_
 exact (zgs rfl)
 exact znu
 exact T.n_all
 ext a
 refine zbU (N:=["one"]) ?_ ?_ ?_ ?_ ?_ ?_ ?_
 ext J;ext F;ext q;ext ag;ext k
 intro _ _ _
 exact zal 0 zqa
 intro _ _ _
 exact zbJ
 intro _ _ _
 refine zkt ?_ ?_
 refine zaA (k:=2) (g:=t.a_36) (fd:=t.d_36) (ps:=["thing"]) ?_ ?_ ?_ ?_ ?_ ?_
 exact G_36
 ext b
 exact T.m_36
 exact T.F_36.kp
 exact T.b_36
 ext am;ext h
 refine zi3 ?_
 ext Y
 exact zmG
 ext ax;ext ak;ext aj
 exact ziT
 exact zbB
 ext d;ext I;ext J;ext H;ext as;ext aw
 exact zal 2 nd_39
 ext d;ext af;ext s
 exact G_37
 ext b
 exact T.m_37
 exact T.F_37.kp
 exact T.b_37
 ext a
 refine zbU (N:=["share","offer","one"]) ?_ ?_ ?_ ?_ ?_ ?_ ?_
 ext J;ext F;ext o
 refine zrR ?_ ?_
 exact T.n_zip
 ext an;ext aw
 intro _ _ _
 ext av
 exact zal 0 zm6
 ext r
 exact zal 1 zm6
 exact zbu
 intro _ _ _
 refine zgg ?_
 ext m
 exact (zkI (ze6 hr))
 ext v;ext f;ext k;ext j
 intro _ _ _
 ext g;ext h;ext av
 exact zal 3 nd_39
 ext r
 exact zal 4 nd_39
 exact zbu
 ext i;ext w;ext m
 exact zgM
 ext D;ext K;ext aj
 exact ziT
 exact zbB
 ext aj
 exact ziT
theorem nd_38:(["stock","thing","things","price","top","bottom"]:List Str).Nodup:=by decide +kernel
theorem zsf:(["one"]:List Str).Nodup:=by decide +kernel
theorem zrb:(["one","thing"]:List Str).Nodup:=by decide +kernel
theorem sc_38:zau ["stock","thing","things","price","top","bottom"] ["stock","thing"] (zae s_38):=⟨rfl,rfl,rfl,by decide +kernel,rfl,by decide +kernel,by decide +kernel⟩
theorem ok_38 (T:Tx K mg t):zb6 P w K mg base CX0 3 t.a_38 t.d_38 ["stock","thing"] (zb9 K 2 F_38):=by
 have G_36:=ok_36 (P:=P) (w:=w) (base:=base) T
 have G_37:=ok_37 (P:=P) (w:=w) (base:=base) T
 refine zbF (k:=2) (G:=G_38) (N:=["stock","thing","things","price","top","bottom"]) (ps:=["stock","thing"]) (st:=s_38) T.F_38 sc_38 fun cdv A outer s H E hr=> ?_
 ext d;ext w
 refine zcI ?_
 ext T;ext az;ext V
 exact zdw
 exact zbh
 ext u;ext S;ext k
 refine zd9 ?_
 ext m;ext Q;ext l
 exact zaW
 exact zch
 ext X;ext an;ext h;ext ax;ext aj
 exact ziT
 exact zbB
 ext d;ext w;ext az
 refine zaV (id:="all") ?_ ?_ ?_ ?_
 exact (zgs rfl)
 exact znu
 exact T.n_all
 ext a
 refine zbU (N:=["one"]) ?_ ?_ ?_ ?_ ?_ ?_ ?_
 ext J;ext y;ext q;ext ag;ext k
 intro _ _ _
 exact zal 0 zsf
 intro _ _ _
 exact zbJ
 intro _ _ _
 refine zkt ?_ ?_
 refine zaA (k:=2) (g:=t.a_36) (fd:=t.d_36) (ps:=["thing"]) ?_ ?_ ?_ ?_ ?_ ?_
 exact G_36
 ext b
 exact T.m_36
 exact T.F_36.kp
 exact T.b_36
 ext am;ext h
 refine zi3 ?_
 ext Y
 exact zmG
 ext ax;ext ak;ext aj
 exact ziT
 exact zbB
 ext d;ext I;ext J;ext H;ext ag;ext ax;ext av
 exact zal 2 nd_38
 ext r
 exact zal 3 nd_38
 exact zbu
 ext d;ext af;ext s
 exact G_37
 ext b
 exact T.m_37
 exact T.F_37.kp
 exact T.b_37
 ext a
 refine zbU (N:=["one","thing"]) ?_ ?_ ?_ ?_ ?_ ?_ ?_
 ext J;ext y;ext q;ext ag;ext v
 intro _ _ _
 exact zal 0 zrb
 intro _ _ _
 exact zbJ
 intro _ _ _
 ext f;ext k;ext g;ext h;ext av
 exact zal 4 nd_38
 ext r
 exact zal 5 nd_38
 exact zbu
 ext i;ext w;ext m
 exact zgh
 ext K;ext c
 exact zcC
 ext D;ext ae;ext aj
 exact ziT
 exact zbB
 ext aj
 exact ziT
theorem nd_34:(["box","stock","many","offers","gone","left"]:List Str).Nodup:=by decide +kernel
theorem zmV:(["things","price","gone"]:List Str).Nodup:=by decide +kernel
theorem zrW:(["thing","gone"]:List Str).Nodup:=by decide +kernel
theorem zri:(["offer"]:List Str).Nodup:=by decide +kernel
theorem sc_34:zau ["box","stock","many","offers","gone","left"] ["box","stock"] (zae s_34):=⟨rfl,rfl,rfl,by decide +kernel,rfl,by decide +kernel,by decide +kernel⟩
theorem ok_34 (T:Tx K mg t):zb6 P w K mg base CX0 2 t.a_34 t.d_34 ["box","stock"] (zb9 K 2 F_34):=by
 have G_29:=ok_29 (P:=P) (w:=w) (base:=base) T
 refine zbF (k:=1) (G:=G_34) (N:=["box","stock","many","offers","gone","left"]) (ps:=["box","stock"]) (st:=s_34) T.F_34 sc_34 fun cdv A outer s H E hr=> ?_
 ext d;ext af;ext k;ext av
 exact zal 2 nd_34
 ext r
 exact zal 3 nd_34
 exact zbu
 ext d;ext R
 exact nd_34
 ext e
 exact G_29
 ext b
 exact T.m_29
 ext Z
 exact T.b_29
 ext am;ext a;ext v;ext ap
 refine zdL 5 (N:=["things","price","gone"]) ?_ ?_ ?_ ?_ ?_ ?_ ?_ ?_
 ext J
 exact nd_34
 ext A;ext o;ext ag;ext D
 intro _ _ _
 ext av
 exact zal 0 zmV
 ext r
 exact zal 1 zmV
 exact zbu
 intro _ _ _
 exact zbJ
 intro _ _ _
 ext aa;ext a;ext t
 exact zba
 exact zbh
 ext S;ext a
 refine zbU (N:=["thing","gone"]) ?_ ?_ ?_ ?_ ?_ ?_ ?_
 ext J
 exact (BOk.of (N:=["thing","gone"]) (src:=[none,some 2]) rfl rfl rfl (by rfl))
 ext q;ext ag;ext g
 intro _ _ _
 exact zal 0 zrW
 intro _ _ _
 refine zgg ?_
 ext m;ext Q;ext g;ext k
 intro _ _ _
 ext g;ext h;ext an;ext h;ext aj;ext aa;ext a;ext v;ext a;ext t
 exact zba
 exact zbh
 ext S;ext a
 refine zbU (N:=["offer"]) ?_ ?_ ?_ ?_ ?_ ?_ ?_
 ext J;ext A;ext q;ext ag;ext ae
 intro _ _ _
 exact zal 0 zri
 intro _ _ _
 refine zgg ?_
 ext m;ext Q;ext ax;ext aa;ext h
 intro _ _ _
 ext g;ext ay
theorem nd_41:(["script","k","box","stock","found","price"]:List Str).Nodup:=by decide +kernel
theorem zna:(["share","offer"]:List Str).Nodup:=by decide +kernel
theorem sc_41:zau ["script","k","box","stock","found","price"] ["script"] (zae s_41):=⟨rfl,rfl,rfl,by decide +kernel,rfl,by decide +kernel,by decide +kernel⟩
theorem ok_41 (T:Tx K mg t):zb6 P w K mg base CX0 7 t.a_41 t.d_41 ["script"] (zb9 K 1 F_41):=by
 have G_28:=ok_28 (P:=P) (w:=w) (base:=base) T
 have G_33:=ok_33 (P:=P) (w:=w) (base:=base) T
 have G_40:=ok_40 (P:=P) (w:=w) (base:=base) T
 have G_39:=ok_39 (P:=P) (w:=w) (base:=base) T
 have G_38:=ok_38 (P:=P) (w:=w) (base:=base) T
 have G_35:=ok_35 (P:=P) (w:=w) (base:=base) T
 have G_34:=ok_34 (P:=P) (w:=w) (base:=base) T
 have G_37:=ok_37 (P:=P) (w:=w) (base:=base) T
 refine zbF (k:=6) (G:=G_41) (N:=["script","k","box","stock","found","price"]) (ps:=["script"]) (st:=s_41) T.F_41 sc_41 fun cdv A outer s H E hr=> ?_
 ext d;ext I;ext J;ext H;ext as;ext a
 refine zaV (id:="max") ?_ ?_ ?_ ?_
 exact (ziZ rfl)
 exact zsq
 exact T.n_max
 ext a;ext j;ext a
 refine zaV (id:="min") ?_ ?_ ?_ ?_
 exact (ziH rfl)
 exact zp3
 exact T.n_min
 ext a;ext l
 exact zaW
 exact zch
 ext X;ext am;ext h;ext a;ext ak;ext ay
 exact zal 1 nd_41
 ext d;ext W
 exact nd_41
 refine zaA (k:=2) (g:=t.a_28) (fd:=t.d_28) (ps:=["script","k"]) ?_ ?_ ?_ ?_ ?_ ?_
 exact G_28
 ext b
 exact T.m_28
 exact T.F_28.kp
 exact T.b_28
 ext am;ext an;ext ap;ext O
 exact nd_41
 refine zaA (k:=3) (g:=t.a_33) (fd:=t.d_33) (ps:=["box","most","lots"]) ?_ ?_ ?_ ?_ ?_ ?_
 exact G_33
 ext b
 exact T.m_33
 exact T.F_33.kp
 exact T.b_33
 ext a;ext v;ext a;ext j;ext a;ext ak;ext d;ext R
 exact nd_41
 ext G
 exact G_40
 ext b
 exact T.m_40
 exact T.F_40.kp
 exact T.b_40
 ext aq;ext ap;ext w
 refine zcI ?_
 ext T;ext az;ext V
 exact zdw
 exact zbh
 ext u;ext S;ext K;ext T;ext m;ext Q;ext l
 exact zaW
 exact zch
 ext X;ext a;ext K;ext h;ext j
 refine zd9 ?_
 ext m;ext Q;ext G
 exact G_40
 ext b
 exact T.m_40
 exact T.F_40.kp
 exact T.b_40
 ext aq;ext h;ext K;ext aj
 exact ziT
 exact zbB
 ext d;ext w
 refine zcI ?_
 ext T;ext az
 refine zaA (k:=3) (g:=t.a_38) (fd:=t.d_38) (ps:=["stock","thing"]) ?_ ?_ ?_ ?_ ?_ ?_
 exact G_38
 ext b
 exact T.m_38
 exact T.F_38.kp
 exact T.b_38
 ext aq;ext a;ext f;ext K;ext ak
 refine zd9 ?_
 ext az
 refine zaA (k:=3) (g:=t.a_39) (fd:=t.d_39) (ps:=["stock","thing"]) ?_ ?_ ?_ ?_ ?_ ?_
 exact G_39
 ext b
 exact T.m_39
 exact T.F_39.kp
 exact T.b_39
 ext aq;ext a;ext f;ext K;ext ak;ext aj
 exact ziT
 exact zbB
 ext d
 refine zdL 5 (N:=["share","offer"]) ?_ ?_ ?_ ?_ ?_ ?_ ?_ ?_
 ext J
 exact nd_41
 exact (BOk.of (Xn:=(zae s_41).names) (XN:=["script","k","box","stock","found","price"]) rfl rfl rfl (by decide +kernel))
 ext o
 refine zrR ?_ ?_
 exact T.n_zip
 ext a;ext f;ext K;ext j;ext a;ext f;ext D;ext ak
 intro _ _ _
 ext av
 exact zal 0 zna
 ext r
 exact zal 1 zna
 exact zbu
 intro _ _ _
 exact zbJ
 intro _ _ _
 ext z
 exact G_35
 ext b
 exact T.m_35
 exact T.F_35.kp
 exact T.b_35
 ext a;ext c
 exact zcC
 ext ax;ext f;ext k;ext j;ext aw;ext i;ext w
 refine zcI ?_
 ext T;ext m;ext Q;ext s
 exact G_37
 ext b
 exact T.m_37
 exact T.F_37.kp
 exact T.b_37
 ext a;ext f;ext K;ext ak;ext s
 exact G_37
 ext b
 exact T.m_37
 exact T.F_37.kp
 exact T.b_37
 ext a;ext ae;ext h
 refine zd9 ?_
 ext m;ext Q;ext G
 exact G_40
 ext b
 exact T.m_40
 exact T.F_40.kp
 exact T.b_40
 ext a
 refine zaA (k:=2) (g:=t.a_34) (fd:=t.d_34) (ps:=["box","stock"]) ?_ ?_ ?_ ?_ ?_ ?_
 exact G_34
 ext b
 exact T.m_34
 exact T.F_34.kp
 exact T.b_34
 ext a;ext v;ext aq;ext ay
 exact zdy
 ext aj
 exact ziT
 exact zbB
 ext aj
 exact ziT
end
end K33
set_option exponentiation.threshold 8000
namespace L3
open PySem PySem.Spec PyProof.Rows L2 LT
section
theorem zdl {n:Nat} {tc:FT} {gb:FS} {sd:Sd}:zbG tc gb (n+1) sd=(do let b<-tc sd;if b=true then (do let o<-gb sd;match o with | .nx sd'=>zbG tc gb n sd' | .ct sd'=>zbG tc gb n sd' | .bk sd'=>pure (.nx sd') | .rt d=>pure (.rt d)) else pure (.nx sd)):=rfl
theorem zei {k:Int} {xs:List Int}:xs.any (· == k)=true↔k∈xs:=by
 rw [List.any_eq_true]
 constructor
 ·rintro ⟨x,hx,e⟩
  rw [beq_iff_eq] at e
  exact e▸hx
 ·intro h
  exact ⟨k,h,by simp⟩
theorem zd8 {α β:Type} {p:α->Bool} {g:α->β}: ∀ xs:List α,xs.filterMap (fun x=>if p x=true then some (g x) else none)=(xs.filter p).map g
 | []=>rfl
 | x::r=>by
  rw [qat,List.filter_cons,zd8 r]
  cases p x<;>simp
theorem zbx {α:Type} {g':α->D} {fi:FA} {g:D->Sd->M Sd} {tc:FT} {te:FE} {src:List (Option Nat)} {sd:Sd} {xs:List α} {k:α->Option D} (hi:fi sd=pure (xs.map g')) (hl:xs.length<=1000) (hf: ∀ x∈xs,zbc g tc te (zak src sd) (g' x)=pure (k x)):zaK fi g tc te src sd=pure (.lst (xs.filterMap k)):=by
 unfold zaK
 rw [hi]
 simp only [pure_bind]
 rw [zaJ (by rw [qaH];exact hl)]
 simp only [pure_bind]
 have: ∀ {ys:List α},(∀ x∈ys,zbc g tc te (zak src sd) (g' x)=pure (k x))->zbj (zbc g tc te (zak src sd)) (ys.map g')=pure (ys.filterMap k):=by
  intro ys
  induction ys with
  | nil=>intro _;rfl
  | cons x r ih=>
   intro hf
   rw [qaM,zbj,hf x qau,ih fun y hy=>hf y (qan _ hy)]
   simp only [pure_bind]
   cases e:k x<;>simp [qat,e]
 rw [this hf]
 simp only [pure_bind]
theorem zkj {x y:D} {a b:PyData} (e1:pd x=some a) (e2:pd y=some b) (h:zf4 a b=true):dNe x y=pure (.bl (!PyData.eqv a b)):=by
 show zja true x y=_
 unfold zja
 rw [e1,e2]
 simp only [h,if_true]
theorem zra (xs ys:List Int):dNe (tI xs) (tI ys)=pure (.bl (!(xs==ys))):=by
 rw [zkj (zjP xs) (zjP ys) (by unfold zf4;simp [PyData.canLay0,zbH,PyData.depth,zcz])]
 simp only [PyData.eqv,zfD]
theorem zsu {i j:Nat} {f g:FE} {sd:Sd}:zpA i j (zac f (zac g zav)) sd=(do let x<-f sd;let y<-g sd;pure (.nx ((sd.set i (some x)).set j (some y)))):=by
 unfold zpA
 simp only [zaI,za2,bind_assoc,pure_bind]
noncomputable def bb:Nat:=2^7000
theorem zko {n:Nat} (h:n<=7000):2^n<=bb:=Nat.pow_le_pow_right (by decide) h
theorem zcT {i:Int} {k:Nat} (h0:0<k) (h1:k<=bb):zdE (.int i) (.int (k:Int))=pure (.int (i / (k:Int))):=by
 have hb:bb<2^8000:=Nat.pow_lt_pow_right (by decide) (by decide)
 have h2:((k:Int):Int)<2^8000:=by
  have:((k:Nat):Int)<((2^8000:Nat):Int):=Int.ofNat_lt.mpr (Nat.lt_of_le_of_lt h1 hb)
  rw [Int.natCast_pow] at this
  exact this
 unfold zdE dII
 simp only
 rw [qa4]
 rw [qaG,qaD,qaD]
 exact ⟨by omega,h2⟩
theorem euc {a b n:Nat} (hb:b≠0) (hab:b<=a) (h:a*b<2^(n+1)):b*(a % b)<2^n:=by
 have hp:0<b:=Nat.pos_of_ne_zero hb
 have h1:=Nat.div_add_mod a b
 have h2:1<=a / b:=(Nat.one_le_div_iff hp).mpr hab
 have h3:=Nat.mod_lt a hp
 have h4:b+a % b<=a:=by
  have:b*1<=b*(a / b):=Nat.mul_le_mul_left b h2
  omega
 have h5:(b+a % b)*b<=a*b:=Nat.mul_le_mul_right b h4
 have h6:b*(a % b)+b*(a % b)<=(b+a % b)*b:=by
  rw [Nat.add_mul,Nat.mul_comm (a % b) b]
  have:b*(a % b)<=b*b:=Nat.mul_le_mul_left b (Nat.le_of_lt h3)
  omega
 rw [Nat.pow_succ] at h
 omega
noncomputable def qD (r:Rat):D:= .tup [.int r.num,.int (r.den:Int)]
theorem zoH (a:Int) {b:Nat} (hb:0<b):Nat.gcd b (a % (b:Int)).toNat=Nat.gcd a.natAbs b:=by
 have h0:0<=a % (b:Int):=Int.emod_nonneg _ (by omega)
 have e:(((a % (b:Int)).toNat:Nat):Int)=a % (b:Int):=Int.toNat_of_nonneg h0
 have key: ∀ d:Nat,(d ∣ b/\d ∣ (a % (b:Int)).toNat)↔(d ∣ a.natAbs/\d ∣ b):=fun d=>by
  rw [<- Int.natCast_dvd_natCast (m:=d) (n:=(a % (b:Int)).toNat),e, <-Int.natCast_dvd_natCast (m:=d) (n:=b), <-Int.ofNat_dvd_left (n:=d) (z:=a)]
  constructor
  ·rintro ⟨h1,h2⟩
   refine ⟨?_,h1⟩
   have:=Int.dvd_add (Int.dvd_mul_of_dvd_left (c:=a / (b:Int)) h1) h2
   rwa [Int.mul_ediv_add_emod] at this
  ·rintro ⟨h1,h2⟩
   refine ⟨h2,?_⟩
   rw [Int.emod_def]
   exact Int.dvd_sub h1 (Int.dvd_mul_of_dvd_left h2)
 refine Nat.dvd_antisymm (Nat.dvd_gcd ((key _).mp ⟨Nat.gcd_dvd_left _ _,Nat.gcd_dvd_right _ _⟩).1 (Nat.gcd_dvd_left _ _)) (Nat.dvd_gcd (Nat.gcd_dvd_right _ _) ((key _).mpr ⟨Nat.gcd_dvd_left _ _,Nat.gcd_dvd_right _ _⟩).2)
end
section
noncomputable def pF:D->Bool
 | .tup [.int a,.int b]=>decide (0<b) && (Nat.gcd a.natAbs b.toNat==1)
 | _=>false
noncomputable def pS:D->Bool
 | .tup [.int a,.int b]=>decide (0<b) && (Nat.gcd a.natAbs b.toNat==1) && decide (0<=a)
 | _=>false
def sv (d:D):Prop:=kn d=true/\ ∀ ds,d= .tup ds->(∀ x∈ds,kn x=true)/\ ∀ a b:Int,ds=[.int a,.int b]->b.toNat<bb
theorem znx {a b:Int} (h:pF (.tup [.int a,.int b])=true): .tup [.int a,.int b]=qD (mkRat a b.toNat)/\(mkRat a b.toNat).num=a/\((mkRat a b.toNat).den:Int)=b:=by
 unfold pF at h
 rw [qaG,qaD,beq_iff_eq] at h
 have e1:(mkRat a b.toNat).num=a:=by
  rw [Rat.num_mkRat,qa5 (by omega),Nat.gcd_comm,h.2]
  simp
 have e2:((mkRat a b.toNat).den:Int)=b:=by
  rw [Rat.den_mkRat,qa5 (by omega),Nat.gcd_comm,h.2,Nat.div_one]
  omega
 exact ⟨by unfold qD;rw [e1,e2],e1,e2⟩
theorem zuR (r:Rat):pF (qD r)=true:=by
 unfold qD pF
 have:=r.den_pos
 rw [qaG,qaD,beq_iff_eq,qaB]
 exact ⟨by omega,r.reduced⟩
end
section
theorem zmf {i j:Int} (h:(zbk i || zbk j || ziM i j)=true):zed (.int i) (.int j)=pure (.int (i*j)):=by
 show (if (zbk i || zbk j || ziM i j)=true then _ else _)=_
 rw [qa4 h]
theorem zkN {x:Int} {n:Nat} (h:x.natAbs<2^n):Builtin.Int.intBits x<=n:=by
 unfold Builtin.Int.intBits
 split
 ·exact Nat.zero_le _
 ·rename_i c
  have h0:x.natAbs≠0:=fun z=>c (by simp;omega)
  exact (Nat.log2_lt h0).mpr h
theorem zmC {a b:Int} (ha:a.natAbs<2^6000) (hb:b.natAbs<2^6000):zed (.int a) (.int b)=pure (.int (a*b)):=by
 refine zmf ?_
 have h1:=zkN ha
 have h2:=zkN hb
 rw [Bool.or_eq_true]
 right
 unfold ziM
 rw [qaD]
 have:(2:Nat)^26=67108864:=by decide
 omega
noncomputable def tt:Nat:=2^1800
noncomputable def pD (p:Int×Nat):D:= .tup [.int p.1,.int (p.2:Int)]
noncomputable def rq (p:Int×Nat):Rat:=mkRat p.1 p.2
noncomputable def nd (r:Rat):Int×Nat:=(r.num,r.den)
noncomputable def dpp (ps:List (Int×Nat)):Nat:=ps.foldr (fun p n=>p.2*n) 1
noncomputable def dp (rs:List Rat):Nat:=rs.foldr (fun r n=>r.den*n) 1
theorem zm3: ∀ rs:List Rat,0<dp rs
 | []=>by decide
 | r::rs=>Nat.mul_pos r.den_pos (zm3 rs)
theorem zhA: ∀ ps:List (Int×Nat),(∀ p∈ps,0<p.2)->0<dpp ps
 | [],_=>by decide
 | p::ps,h=>Nat.mul_pos (h p qau) (zhA ps fun q hq=>h q (qan _ hq))
theorem zkz: ∀ rs:List Rat,dpp (rs.map nd)=dp rs
 | []=>rfl
 | r::rs=>by
  show r.den*dpp (rs.map nd)=r.den*dp rs
  rw [zkz rs]
theorem zox (rs:List Rat):(rs.map nd).map rq=rs:=by
 rw [qaT]
 conv=>rhs;rw [<- List.map_id rs]
 exact List.map_congr_left fun r _=>Rat.mkRat_self r
theorem zpN (rs:List Rat):(rs.map nd).map pD=rs.map qD:=by
 rw [qaT]
 rfl
theorem zhR (a:Int) {b:Nat} (hb:0<b):(mkRat a b).num.natAbs<=a.natAbs:=by
 rw [Rat.num_mkRat,qa5 (by omega)]
 exact Int.natAbs_ediv_le_natAbs _ _
theorem ziw (a:Int) {b:Nat} (hb:0<b):(mkRat a b).den<=b:=by
 rw [Rat.den_mkRat,qa5 (by omega)]
 exact Nat.div_le_self _ _
theorem zkM {a b x y:Nat} (ha:a<=2^x) (hb:b<=2^y):a*b<=2^(x+y):=by
 rw [Nat.pow_add]
 exact Nat.mul_le_mul ha hb
structure Sz (A:Int) (B k:Nat) (rs:List (Int×Nat)):Prop where
 b0:0<B
 b1:B*dpp rs<=2^2000
 a1:A.natAbs<=k*(tt*B)
 k1:k+rs.length<=14
 r1: ∀ r∈rs,r.1.natAbs<=tt
 p0: ∀ r∈rs,0<r.2
theorem Sz.B_le {A:Int} {B k:Nat} {rs:List (Int×Nat)} (z:Sz A B k rs):B<=2^2000:=by
 have h:=z.b1
 have h1:B*1<=B*dpp rs:=Nat.mul_le_mul_left B (zhA rs z.p0)
 omega
theorem Sz.A_le {A:Int} {B k:Nat} {rs:List (Int×Nat)} (z:Sz A B k rs):A.natAbs<=2^3804:=by
 have hB:=z.B_le
 have hk:k<=2^4:=by
  have:=z.k1
  have:(2:Nat)^4=16:=by decide
  omega
 have h1:tt*B<=2^(1800+2000):=zkM (qaV _) hB
 have h2:k*(tt*B)<=2^(4+(1800+2000)):=zkM hk h1
 exact qaS z.a1 h2
theorem Sz.d_le {A:Int} {B k:Nat} {r:Int×Nat} {rs:List (Int×Nat)} (z:Sz A B k (r::rs)):B*r.2<=2^2000/\r.2<=2^2000:=by
 have h:=z.b1
 have h0:=z.b0
 have e:B*dpp (r::rs)=B*r.2*dpp rs:=by
  show B*(r.2*dpp rs)=_
  rw [Nat.mul_assoc]
 rw [e] at h
 have h1:B*r.2*1<=B*r.2*dpp rs:=Nat.mul_le_mul_left _ (zhA rs fun q hq=>z.p0 q (qan _ hq))
 have h2:1*r.2<=B*r.2:=Nat.mul_le_mul_right _ h0
 omega
theorem Sz.next {A:Int} {B k:Nat} {r:Int×Nat} {rs:List (Int×Nat)} (z:Sz A B k (r::rs)):Sz (A*(r.2:Int)+r.1*(B:Int)) (B*r.2) (k+1) rs where
 b0:=Nat.mul_pos z.b0 (z.p0 r qau)
 b1:=by
  have h:=z.b1
  have e:B*dpp (r::rs)=B*r.2*dpp rs:=by
   show B*(r.2*dpp rs)=_
   rw [Nat.mul_assoc]
  rw [<- e]
  exact h
 a1:=by
  have h1:=Int.natAbs_add_le (A*(r.2:Int)) (r.1*(B:Int))
  rw [Int.natAbs_mul,Int.natAbs_mul,Int.natAbs_natCast,Int.natAbs_natCast] at h1
  have h2:A.natAbs*r.2<=k*(tt*B)*r.2:=Nat.mul_le_mul_right _ z.a1
  have h3:r.1.natAbs*B<=tt*B:=Nat.mul_le_mul_right _ (z.r1 r qau)
  have h4:tt*B*1<=tt*B*r.2:=Nat.mul_le_mul_left _ (z.p0 r qau)
  have e1:k*(tt*B)*r.2=k*(tt*(B*r.2)):=by rw [Nat.mul_assoc,Nat.mul_assoc]
  have e2:(k+1)*(tt*(B*r.2))=k*(tt*(B*r.2))+tt*(B*r.2):=by rw [Nat.add_mul,Nat.one_mul]
  have e3:tt*B*r.2=tt*(B*r.2):=Nat.mul_assoc _ _ _
  omega
 k1:=by
  have:=z.k1
  rw [qaE] at this
  omega
 r1:=fun x hx=>z.r1 x (qan _ hx)
 p0:=fun x hx=>z.p0 x (qan _ hx)
theorem zbe {n:Nat} (h:n<6000) {a:Nat} (ha:a<=2^n):a<2^6000:=Nat.lt_of_le_of_lt ha (Nat.pow_lt_pow_right (by decide) h)
theorem zem {A:Int} {B:Nat} (h0:0<B) {p:Int×Nat} (hp:0<p.2):mkRat A B+rq p=mkRat (A*(p.2:Int)+p.1*(B:Int)) (B*p.2):=by
 exact Rat.mkRat_add_mkRat A p.1 (d₁:=B) (d₂:=p.2) (by omega) (by omega)
end
section
theorem zn1 {F:List D->M D} {x y z w:D}:zay 4 F [x,y,z,w]=F [x,y,z,w]:=rfl
theorem znT {F:List D->M D} {x y z w v:D}:zay 5 F [x,y,z,w,v]=F [x,y,z,w,v]:=rfl
theorem zeO {α:Type} {n:Nat} {f:Nat->α} {k:Nat} (h:k<n):atI ((List.range n).map f) (k:Int)=some (f k):=by
 unfold atI ixN
 rw [qa4 (by omega),qa4 (by rw [qaH,List.length_range];omega)]
 simp [h]
theorem zhO {α:Type} {n:Nat} {f:Nat->α}:atI ((List.range (n+1)).map f) (-1)=some (f n):=by
 unfold atI ixN
 rw [qa5 (by omega),qa4 (by rw [qaH,List.length_range];omega)]
 rw [qaH,List.length_range]
 show ((List.range (n+1)).map f)[(-1+((n+1:Nat):Int)).toNat]? = _
 rw [show (-1+((n+1:Nat):Int)).toNat=n by omega]
 simp
noncomputable def zbM (n:Nat) (f:Nat->Int):D:= .lst ((List.range n).map fun x=> .int (f x))
noncomputable def zbl (n k:Nat) (T:Nat->Nat->Int):D:= .lst ((List.range n).map fun j=>zbM k (T j))
theorem zuC (n:Nat):zd6 0 n=(List.range n).map fun (k:Nat)=>D.int (k:Int):=by
 unfold zd6
 exact List.map_congr_left fun k _=>by rw [Int.zero_add]
theorem zhM {n:Nat} (h:n<=1000):zht [.int (n:Int)]=pure ((List.range n).map fun (k:Nat)=>D.int (k:Int)):=by
 rw [<- zuC]
 show (if zcE (n:Int)=true then (pure (zd6 0 (n:Int).toNat):M (List D)) else M.bad)=_
 rw [qa4 (by unfold zcE;simp;omega)]
 rfl
theorem zjz {f:FE} {sd:Sd}:zhj f sd=(do let d<-f sd;match d with | .lst ds=>pure (zf3 ds) | _=>M.bad):=rfl
theorem zkS {n:Nat} {f:Nat->D}:zf3 ((List.range n).map f)=(List.range n).map fun (k:Nat)=> .tup [.int k,f k]:=by
 unfold zf3
 rw [qaH,List.length_range]
 refine List.map_congr_left fun k hk=> ?_
 have hk:=List.mem_range.mp hk
 rw [show ((List.range n).map f).getD k .non=f k by simp [List.getD,hk]]
theorem zoz {n:Nat} {f g:Nat->D}:zf5 ((List.range n).map f) ((List.range n).map g)=(List.range n).map fun k=> .tup [f k,g k]:=by
 unfold zf5
 rw [List.zip_map,qaT]
 have:(List.range n).zip (List.range n)=(List.range n).map fun k=>(k,k):=by
  refine List.ext_getElem? fun j=> ?_
  simp only [List.getElem?_zip_eq_some,List.getElem?_map]
  by_cases hj:j<n
  ·simp [List.getElem?_range hj,List.zip,List.getElem?_zipWith,hj]
  ·simp [List.zip,List.getElem?_zipWith,hj]
 rw [this,qaT]
 rfl
end
section
def Kp (N:Nat) (h h':Hh):Prop:=N<=h'.length/\ ∀ k,k<N->h'[k]? = h[k]?
theorem Kp.gro {h h':Hh} (k:Kp h.length h h'):Gro h h':=by
 refine ⟨h'.drop h.length,List.ext_getElem? fun j=> ?_⟩
 by_cases hj:j<h.length
 ·rw [qad hj,k.2 j hj]
 ·rw [qaa (by omega),List.getElem?_drop]
  congr 1
  omega
theorem zmN {n:Nat} {h:Hh} {ds:List D} {P:D->Hh->Prop} (e:h[n]? = some (.lst ds)) (k:P (.lst ds) (h.set n .dead)):wp (zrq (.cel n)) h P:=by
 refine ⟨.lst ds,h.set n .dead,?_,k⟩
 unfold zrq
 simp only
 rw [e]
theorem zgR (d:D) {n:Nat} (h:n<1000):zhr (.lst [d]) (.int (n:Int))=pure (.lst (List.replicate n d)):=by
 show (if _ then _ else _)=_
 rw [qa4 ⟨by omega,by omega,by
   have hsl:(sizeLine:Nat)=16777216:=by decide
   show 1*(n:Int).toNat<=_
   omega⟩]
 congr 2
 refine List.eq_replicate_iff.mpr ⟨by simp,fun x hx=> ?_⟩
 obtain ⟨l,hl,hx⟩:=List.mem_flatten.mp hx
 rw [(List.mem_replicate.mp hl).2] at hx
 exact List.mem_singleton.mp hx
theorem zew {α:Type} (f:Nat->α) (m n:Nat):(List.range (m+n)).map f=(List.range m).map f++(List.range n).map fun j=>f (m+j):=by
 induction n with
 | zero=>simp
 | succ n ih=>rw [<- Nat.add_assoc,List.range_succ,List.map_append,ih,List.range_succ,List.map_append];simp
end
section
theorem zp4 {α:Type} {g':α->D} {f:D->M (Option D)} {k:α->Option D} {h:Hh}: ∀ {xs:List α} {P:List D->Hh->Prop},(∀ x∈xs,wp (f (g' x)) h fun o h'=>o=k x/\h'=h)->P (xs.filterMap k) h->wp (zbj f (xs.map g')) h P
 | [],P,_,q=>by rw [List.map_nil,zbj,zan];exact q
 | x::r,P,hf,q=>by
  rw [qaM,zbj,zam]
  refine zfr (hf x qau) ?_
  rintro o h' ⟨rfl,rfl⟩
  rw [zam]
  refine zp4 (fun y hy=>hf y (qan _ hy)) ?_
  rw [zan]
  rw [qat] at q
  cases hk:k x<;>rw [hk] at q<;>exact q
theorem zoj {fo:FE} {fs:FA} {sd:Sd}:zo5 fo fs sd=(fo sd>>=fun x=>zfG x>>=fun _=>fs sd>>=fun ys=>zhv x ys):=rfl
theorem znR (kvs:List (Int×D)) (k:Int) (d:D) (j:Int):atK (zpD kvs k d) j=if k=j then some d else atK kvs j:=by
 unfold zpD atK
 split
 ·rename_i e
  induction kvs with
  | nil=>simp at e
  | cons p r ih=>
   rw [qaM,List.find?_cons,List.find?_cons]
   by_cases h1:p.1=k
   ·rw [qa4 h1]
    by_cases h2:k=j
    ·rw [qa4 h2]
     dsimp only
     rw [decide_eq_true (h1.trans h2)]
     rfl
    ·rw [qa5 h2]
     dsimp only
     rw [decide_eq_false (fun z=>h2 (h1.symm.trans z))]
     dsimp only
     by_cases h3:(r.any fun p=>decide (p.1=k))=true
     ·rw [ih h3,qa5 h2]
     ·congr 1
      have:r.map (fun p=>if p.1=k then (p.1,d) else p)=r:=by
       refine (List.map_congr_left fun q hq=> ?_).trans (List.map_id _)
       rw [qa5 fun z=>h3 (List.any_eq_true.mpr ⟨q,hq,decide_eq_true z⟩)]
       rfl
      rw [this]
   ·rw [qa5 h1]
    have h3:(r.any fun p=>decide (p.1=k))=true:=by
     rw [List.any_cons,decide_eq_false h1] at e
     simpa using e
    by_cases h4:p.1=j
    ·rw [decide_eq_true h4,qa5 (fun z=>h1 (h4.trans z.symm))]
    ·rw [decide_eq_false h4]
     exact ih h3
 ·rename_i e
  rw [List.find?_append]
  by_cases h2:k=j
  ·subst h2
   rw [qa4 rfl]
   have:kvs.find? (fun p=>decide (p.1=k))=none:=by
    rw [List.find?_eq_none]
    intro p hp hd
    exact e (List.any_eq_true.mpr ⟨p,hp,hd⟩)
   rw [this]
   simp
  ·rw [qa5 h2]
   have:[(k,d)].find? (fun p=>decide (p.1=j))=none:=by simp [h2]
   rw [this]
   simp
section
variable {n:Nat} {d:D} {h:Hh}
theorem zrg {kvs:List (Int×D)} {k:Int} {P:D->Hh->Prop} (e:h[n]? = some (.dic kvs)) (q:P ((atK kvs k).getD d) h):wp (zhv (.cel n) [.int k,d]) h P:=by
 refine ⟨_,h,?_,q⟩
 show M.bind (zcx n) _ h=_
 unfold M.bind zcx
 rw [e]
 rfl
theorem zkH {kvs:List (Int×D)} {P:Unit->Hh->Prop} (e:h[n]? = some (.dic kvs)) (q:P () h):wp (zfG (.cel n)) h P:=by
 refine ⟨_,h,?_,q⟩
 show M.bind (zcx n) _ h=_
 unfold M.bind zcx
 rw [e]
 rfl
theorem zk1 {kvs:List (Int×D)} {P:D->Hh->Prop} (q:P (.cel h.length) (h++[.dic kvs])):wp (zin kvs) h P:=⟨_,_,rfl,q⟩
end
theorem zkG {α:Type} {f:α->Int×D}: ∀ xs:List α,prs (xs.map fun x=> .tup [.int (f x).1,(f x).2])=some (xs.map f)
 | []=>rfl
 | x::xs=>by
  rw [qaM,prs,zkG xs]
  rfl
end
section
theorem zoB {f:Rat->D} (hf: ∀ r,f r= .tup [.int r.num,.int (r.den:Int)]): ∀ rs:List Rat,pdL (rs.map f)=some (rs.map fun r=> .tuple [.int r.num,.int (r.den:Int)])
 | []=>rfl
 | r::rs=>by rw [qaM,pdL,zoB hf rs,hf];rfl
theorem zoe: ∀ rs:List Rat,PyData.canLayAll0 (rs.map fun r=>PyData.tuple [.int r.num,.int (r.den:Int)])=true/\PyData.depthAll (rs.map fun r=>PyData.tuple [.int r.num,.int (r.den:Int)])<=1/\PyData.eqvAll (rs.map fun r=>PyData.tuple [.int r.num,.int (r.den:Int)]) (rs.map fun r=>PyData.tuple [.int r.num,.int (r.den:Int)])=true
 | []=>⟨rfl,Nat.zero_le _,rfl⟩
 | r::rs=>by
  obtain ⟨h1,h2,h3⟩:=zoe rs
  refine ⟨?_,?_,?_⟩
  ·rw [qaM,PyData.canLayAll0,h1]
   simp [PyData.canLay0,PyData.canLayAll0]
  ·rw [qaM,PyData.depthAll]
   have:(PyData.tuple [.int r.num,.int (r.den:Int)]).depth=1:=by simp [PyData.depth,PyData.depthAll]
   omega
  ·rw [qaM,PyData.eqvAll,h3]
   simp [PyData.eqv,PyData.eqvAll]
theorem zor (x y:Str) (hx:PyData.strOk x=true) (hy:PyData.strOk y=true):dNe (.str x) (.str y)=pure (.bl (!(x==y))):=by
 rw [zkj (x:= .str x) (y:= .str y) rfl rfl (by unfold zf4;simp [PyData.canLay0,PyData.depth,hx,hy])]
 rfl
end
end L3
namespace K33
open PySem PySem.Spec PyProof.Rows L2 L3 LT
set_option hygiene false in
local macro_rules | `(tactic| ac_nf0)=> `(tactic| simp only [zbg,zcM,zib,zda,zkO,zjD,zhE,zgP,zbC,zaI,za2,zcs,zoQ,zfa,zaE,zaL,pure_bind,bind_assoc,zf8,zsE,zfK,ztX,List.set,zey,zqp,zqg,zsn,zsU,zmR,ztK,zm9,ztJ,zgi,zh2,zfU,zea,zpy,zbD,zoF,zc9,zsO,zeP,zkf,zqZ,ze5,zrH,zkT,ztH,zrm,zqK,zgJ,zdG,zjk,zif,zk7,zgb,zr3,zam,zan,zij,qaE,qaJ,qaH,Nat.zero_add,Nat.reduceAdd,Nat.reduceLeDiff,zaJ,zb8,tI,zjL,zoM,zlK,zrL,zl8,ziL,zmq,ztV,znQ,zoU,zq7,zt3,zs4,ztA,zmW,zm0,zp0,zs0,znD,zux,if_true,Bool.not_true,Bool.not_false,qax,if_false,qav,List.cons_append,List.nil_append,zr7,zqn,zn1,znT])
variable {m:Int} {os:List (List Int×Int)} {i:Nat}
theorem zgD {d:D} (k:kn d=true):F_30 [d]=pure (.bl (isI d)):=by
 rw [d_30]
 simp only [G_30,zda,zmR,zoQ,zaE,pure_bind,bind_assoc,zpu k,zqd k,zea,zm9]
 cases d<;>simp [isI]
noncomputable def zgo (m:Int):D->Bool
 | .tup [.tup ts,.int p]=>zdB m 0 ts && decide (0<(ts.length:Int)) && decide (0<p/\p<2^64)
 | _=>false
theorem zb3 {h:Hh} {b:Nat} {m:Int} {P:D->Hh->Prop} (q:Bx b h) (h0:0<m) (h1:m<2^64) (k: ∀ t h',0<=t->t<m->Ext b h h'->P (.int t) h'):wp (F_29 [.cel b,.int m]) h P:=by
 obtain ⟨z,e⟩:=id q
 rw [d_29]
 simp only [G_29,zbg,zcM,zcs,zaE,zaL,pure_bind,bind_assoc,zfa,ziB,zam,zbV e,zkf,ze5,zan,zcW h0,zf8,List.set,zib,ziv h0 h1,zhB,zkn]
 have e2:ixN ([D.int z]:List D).length 0=some 0:=rfl
 simp only [zam,zbV e,e2,ze5,zan,zfi,zf8,zda,zaL,zaE,zfK,List.set]
 exact k _ _ (Int.emod_nonneg _ (by omega)) (Int.emod_lt_of_pos _ h0) q.set
theorem znF {ns:List Int} {k:Int} (h0:0<=k): ∃ c:Int,F_27 [.scr (ns.map D.int),.int k]=pure (.int c):=by
 rw [d_27]
 simp only [G_27,zbg,zkO,zey,zaL,zaE,pure_bind,bind_assoc,zbC,zaI,za2,zmT,zpH,zea]
 by_cases hk:k<((ns.map D.int).length:Int)
 ·have hk':k.toNat<ns.length:=by simp at hk;omega
  have ea:atI (ns.map D.int) k=some (.int ns[k.toNat]):=by
   have:=zfw (xs:=ns.map D.int) (j:=k.toNat) (v:= .int ns[k.toNat]) (by simp [hk'])
   rw [<- this]
   congr 1
   omega
  simp only [hk,decide_true,if_true,zda,zcs,zaE,zaL,pure_bind,zth,ea,ze5,zsE,zfK]
  exact ⟨_,rfl⟩
 ·simp only [hk,decide_false,qax,if_false,zgP,pure_bind,zf8,zda,zcs,zfa,zaL,zaE,zg0 (show (-1000000000000000:Int)<6151 by decide) (show (6151:Int)<1000000000000000 by decide),zc9,zfK]
  exact ⟨_,rfl⟩
theorem zhX {s0 s2:Option D} {k:Int} (k0:0<=k) (k5:k<5): ∀ (ds:List D) (n mx:Int) (x5:Option D),(∀ d∈ds, ∃ j:Int,d= .int j/\0<=j/\j<24)->0<=mx->mx<2147483647->
  ∃ (n' mx':Int) (x5':Option D),za1 (fun x sd=>do let sd1<-zaG 5 x sd;zcP sd1) ds [s0,some (.int k),s2,some (.int n),some (.int mx),x5]=pure (.nx [s0,some (.int k),s2,some (.int n'),some (.int mx'),x5'])
 | [],n,mx,x5,_,_,_=>⟨n,mx,x5,rfl⟩
 | d::r,n,mx,x5,hd,m0,m1=>by
  obtain ⟨j,rfl,j0,j1⟩:=hd _ qau
  obtain ⟨n',mx',x5',ih⟩:=zhX k0 k5 r (n*2147483647+(mx*48271+7*j*j+11*k+1) % 2147483647) ((mx*48271+7*j*j+11*k+1) % 2147483647) (some (.int j)) (fun y hy=>hd y (qan _ hy)) (Int.emod_nonneg _ (by decide)) (Int.emod_lt_of_pos _ (by decide))
  refine ⟨n',mx',x5',?_⟩
  rw [zcj, <-ih]
  simp only [zcP,zdG,List.set,pure_bind,bind_assoc,zbg,zcM,zcs,zaL,zaE,zfa,zg0 (show -1000000000000000<mx by omega) (show mx<1000000000000000 by omega),zg0 (show (-1000000000000000:Int)<7 by decide) (show (7:Int)<1000000000000000 by decide),
    zmZ (i:=7*j) (show -1000000000000000<j by omega) (show j<1000000000000000 by omega),zg0 (show (-1000000000000000:Int)<11 by decide) (show (11:Int)<1000000000000000 by decide),zc9,zcW (show (0:Int)<2147483647 by decide),zf8,zmZ (i:=n) (show (-1000000000000000:Int)<2147483647 by decide) (show (2147483647:Int)<1000000000000000 by decide)]
theorem zqb {h:Hh} {ns:List Int} {k:Int} {P:D->Hh->Prop} (k0:0<=k) (k5:k<5) (q: ∀ z:Int,P (.cel h.length) (h++[.lst [.int z]])):wp (F_28 [.scr (ns.map D.int),.int k]) h P:=by
 obtain ⟨c,ec⟩:=znF (ns:=ns) k0
 rw [d_28]
 simp only [G_28,zbg,zcM,zbC,zaI,za2,zaE,zaL,pure_bind,bind_assoc,zbD,ec,zf8,List.set,zkO,zey,zcs,zfa,zcW (show (0:Int)<2 by decide),zn6,zea]
 by_cases hc:(c % 2==0)=true
 ·simp only [hc,if_true,zda,zfU,zaI,za2,zcs,zaL,zaE,zfa,pure_bind,bind_assoc,ziv (show (0:Int)<2 by decide) (show (2:Int)<2^64 by decide),qaE,qaJ,zaJ (show 0+1<=1000 by decide),zam,zij,zan,zsE,zfK]
  exact q _
 ·obtain ⟨n',mx',x5',el⟩:=zhX (s0:=some (.scr (ns.map D.int))) (s2:=some (.int c)) k0 k5 (zd6 0 24) 0 (c % 2147483647) none (fun d hd=>by
    obtain ⟨i,e,i0,i1⟩:=zfx hd
    exact ⟨i,e,i0,by omega⟩) (Int.emod_nonneg _ (by decide)) (Int.emod_lt_of_pos _ (by decide))
  have er:zht [.int 24]=pure (zd6 0 24):=zdg (by decide) (by decide)
  simp only [hc,if_false,zgP,pure_bind,zf8,zbg,zcM,zfa,List.set,zcs,zaL,zaE,zcW (show (0:Int)<2147483647 by decide),zjD,zgJ,zaI,za2,er,bind_assoc,el,zda,zfU,qaE,qaJ,zaJ (show 0+1<=1000 by decide),zam,zij,zan,zfK,qax]
  exact q _
theorem zgp {a b:Nat} (h:a<=b):(2:Int)^a<=2^b:=by
 have:(2:Nat)^a<=2^b:=Nat.pow_le_pow_right (by decide) h
 exact_mod_cast this
theorem zhQ {bits:Int}: ∀ (m:Nat),0<bits->bits<2^m-> ∃ j:Nat,j<m/\(bits / 2^j) % 2=1
 | 0,h0,h1=>by simp at h1;omega
 | m+1,h0,h1=>by
  by_cases c:bits<2^m
  ·obtain ⟨j,a,b⟩:=zhQ m h0 c
   exact ⟨j,by omega,b⟩
  ·refine ⟨m,by omega,?_⟩
   have hp:(0:Int)<2^m:=Int.pow_pos (by decide)
   have e:bits / 2^m=1:=by
    have h2:(2:Int)^(m+1)=2*2^m:=by rw [Int.pow_succ];omega
    have a1:1<=bits / 2^m:=(Int.le_ediv_iff_mul_le hp).mpr (by omega)
    have a2:bits / 2^m<2:=(Int.ediv_lt_iff_lt_mul hp).mpr (by omega)
    omega
   rw [e]
   decide
noncomputable def zpG (bits:Int) (d:D):Option D:=match d with
 | .int j=>if ((bits / 2^j.toNat) % 2==1)=true then some d else none
 | _=>none
theorem zgG (bits:Int): ∀ xs:List Int,(xs.map D.int).filterMap (zpG bits)=(xs.filter fun j=>(bits / 2^j.toNat) % 2==1).map D.int
 | []=>rfl
 | x::r=>by
  rw [qaM,qat,List.filter_cons,zgG bits r]
  unfold zpG
  dsimp only
  split<;>simp_all
theorem zkE {bits:Int} {m:Nat} (h0:0<bits) (h1:bits<2^m):zdB m 0 ((zd6 0 m).filterMap (zpG bits))=true/\(zd6 0 m).filterMap (zpG bits)≠[]:=by
 rw [zfz,zgG]
 constructor
 ·rw [zbK]
  constructor
  ·refine List.Pairwise.filter _ ?_
   rw [List.pairwise_map]
   exact List.pairwise_lt_range.imp fun h=>by omega
  ·intro x hx
   obtain ⟨k,hk,e⟩:=qaU.mp (List.mem_filter.mp hx).1
   have:=List.mem_range.mp hk
   omega
 ·obtain ⟨j,a,b⟩:=zhQ m h0 h1
  intro z
  have:((j:Int))∈((List.range m).map fun (k:Nat)=>(k:Int)).filter fun j=>(bits / 2^j.toNat) % 2==1:=by
   refine List.mem_filter.mpr ⟨qaU.mpr ⟨j,List.mem_range.mpr a,rfl⟩,?_⟩
   rw [qaB,b]
   rfl
  have z':=List.map_eq_nil_iff.mp z
  rw [z'] at this
  cases this
theorem zks {h:Hh} {b:Nat} {m:Int} {P:D->Hh->Prop} (q:Bx b h) (h0:1<=m) (h1:m<=10) (k: ∀ ts h',zdB m 0 ts=true->ts≠[]->Ext b h h'->P (.tup ts) h'):wp (F_32 [.cel b,.int m]) h P:=by
 rw [d_32]
 simp only [G_32,zbg,zcM,zbC,zaI,za2,zaE,zaL,pure_bind,bind_assoc,zbD,zfa,zam]
 refine zb3 q (by decide) (by decide) fun way h2 w0 w1 x2=> ?_
 simp only [zan,zam,zf8,List.set,zbg,zkO,zey,zaL,zaE,pure_bind,bind_assoc,zfa,zn6,zea]
 by_cases hw:(way==0)=true
 ·rw [qa4 hw]
  simp only [zbg,zcM,zcs,zfa,zaL,zaE,pure_bind,bind_assoc,zbC,zaI,za2,zpf (show 0<=m by omega) (show m<=1000 by omega),znD,zbD,zam]
  have hp:(2:Int)<=2^m.toNat:=by
   have:(2:Int)^1<=2^m.toNat:=zgp (by omega)
   simpa using this
  have hp':(2:Int)^m.toNat<=2^10:=zgp (by omega)
  refine zb3 x2.1 (by omega) (by omega) fun t h3 t0 t1 x3=> ?_
  have ed:zaK (ze4 (zac (zaf 1) zav)) (zaG 0) zb2 zb0 [none,some 3] [some (.cel b),some (.int m),some (.int way),some (.int (1+t)),none,none]=pure (.lst ((zd6 0 m.toNat).filterMap (zpG (1+t)))):=by
   refine zcY (by simp [zdg (show 0<=m by omega) (show m<1000 by omega)]) (by rw [zfC];omega) fun x hx=> ?_
   obtain ⟨i,rfl,i0,i1⟩:=zfx hx
   have eb:zak [none,some 3] [some (.cel b),some (.int m),some (.int way),some (.int (1+t)),none,none]=[none,some (D.int (1+t))]:=rfl
   rw [eb]
   simp only [zbc,zdG,List.set,pure_bind,zb2,zey,zcs,zaL,zaE,zfa,zo6 i0,ztm,zpq,zn6,zea,zb0,zpG]
   split<;>rfl
  simp only [zan,zam,zf8,List.set,zc9,pure_bind,zda,zbC,zaI,za2,bind_assoc,ed,zgb,zsE,zfK]
  have hm:((m.toNat:Nat):Int)=m:=Int.toNat_of_nonneg (by omega)
  have:=zkE (bits:=1+t) (m:=m.toNat) (by omega) (by omega)
  rw [hm] at this
  exact k _ _ this.1 this.2 (x2.trans x3)
 ·rw [qa5 hw]
  have hw': ¬way=0:=by simpa using hw
  simp only [zgP,zan,zf8,zbg,zib,zgi,zaI,za2,zbC,zaE,zaL,pure_bind,bind_assoc,zbD,zam]
  refine zb3 x2.1 (by omega) (by omega) fun first h3 f0 f1 x3=> ?_
  simp only [zcs,zh2,zaI,za2,zfa,zbC,zaE,zaL,pure_bind,bind_assoc,zbD,zam,zan]
  refine zb3 x3.1 (by decide) (by decide) fun t h4 t0 t1 x4=> ?_
  simp only [zc9,pure_bind,zan,zam,qaE,qaJ,zaJ (show 0+1+1<=1000 by decide),zaL,zaE,znD,zeP,bind_assoc]
  obtain ⟨step,es,s0,s1⟩: ∃ s:Int,atI [D.int 1,D.int (1+t)] (way - 1)=some (.int s)/\1<=s/\s<=3:=by
   by_cases c:way=1
   ·subst c
    exact ⟨1,rfl,by decide,by decide⟩
   ·have c:way=2:=by omega
    subst c
    exact ⟨1+t,rfl,by omega,by omega⟩
  simp only [es,ze5,zan,zam,zjk,zif,zdG,List.set,pure_bind,zk7,zf8,zda,zbC,zaI,za2,zoQ,bind_assoc]
  unfold zaK
  simp only [zgJ,zaI,za2,zcs,zfa,zbC,zaE,zaL,pure_bind,bind_assoc,zbD,zam]
  refine zb3 x4.1 (by decide) (by decide) fun u h5 u0 u1 x5=> ?_
  have eb:zak [none,some 4,some 5,some 1] [some (.cel b),some (.int m),some (.int way),none,some (.int first),some (.int step)]=[none,some (D.int first),some (.int step),some (.int m)]:=rfl
  have hl:zbj (zbc (zaG 0) (fun _=>pure true) zbZ [none,some (D.int first),some (.int step),some (.int m)]) (zd6 0 (1+u).toNat)=pure ((((List.range (1+u).toNat).map fun (k:Nat)=>(first+step*(k:Int)) % m)).map D.int):=by
   rw [zfz]
   rw [zdZ (k:=fun d=>match d with | .int j=>some (.int ((first+step*j) % m)) | _=>none)]
   ·congr 1
    rw [List.filterMap_map]
    simp [Function.comp_def]
   ·intro x hx
    obtain ⟨j,_,rfl⟩:=qaU.mp hx
    simp only [zbc,zdG,List.set,pure_bind,if_true,zbZ,zcs,zaL,zaE,zg0 (show -1000000000000000<step by omega) (show step<1000000000000000 by omega),zc9,zcW (show 0<m by omega)]
  simp only [zc9,pure_bind,zdg (show 0<=1+u by omega) (show 1+u<1000 by omega),zfC,zaJ (show (1+u).toNat<=1000 by omega),eb,hl,zan,zam]
  generalize hy:((List.range (1+u).toNat).map fun (k:Nat)=>(first+step*(k:Int)) % m)=ys
  have yl:ys.length=(1+u).toNat:=by rw [<- hy];simp
  have ym: ∀ y∈ys,0<=y/\y<m:=fun y h=>by
   rw [<- hy] at h
   obtain ⟨k,_,rfl⟩:=qaU.mp h
   exact ⟨Int.emod_nonneg _ (by omega),Int.emod_lt_of_pos _ (by omega)⟩
  simp only [zgu (show ys.length<64 by omega),zan,zgb,zfK,pure_bind,zam]
  refine k _ _ (zbK.mpr ⟨zeM ys,fun x hx=>ym x (zc0.mp hx)⟩) (fun z=> ?_) (((x2.trans x3).trans x4).trans x5)
  have z':=List.map_eq_nil_iff.mp z
  have hy0: ∃ y,y∈ys:=List.exists_mem_of_length_pos (by omega)
  obtain ⟨y,hy0⟩:=hy0
  have:=zc0.mpr hy0
  rw [z'] at this
  cases this
def Row (m:Int) (h:Hh) (d:D):Prop:= ∃ (n:Nat) (xs:List Int) (p:Int),d= .cel n/\h[n]? = some (.lst [.tup (xs.map D.int),.int p])/\zdB m 0 (xs.map D.int)=true/\xs≠[]/\(0<p/\p<2^64)
theorem Row.ext {m:Int} {b:Nat} {h h':Hh} {d:D} (q:Bx b h) (x:Ext b h h') (r:Row m h d):Row m h' d:=by
 obtain ⟨n,ts,p,e,e2,r⟩:=r
 have hn:n≠b:=fun z=>by
  subst z
  obtain ⟨y,e3⟩:=q
  rw [e3] at e2
  cases e2
 exact ⟨n,ts,p,e,x.2 n _ hn e2,r⟩
theorem zjT {b:Nat} {m far:Int} (m0:1<=m) (m1:m<=10) (f0:0<far) (f1:far<2^64): ∀ (ds:List D) {h:Hh} {P:List D->Hh->Prop},Bx b h->(∀ rs h',Ext b h h'->rs.length=ds.length->(∀ r∈rs,Row m h' r)->P rs h')->
  wp (zbj (zbc (zaG 0) (fun _=>pure true) zcF [none,some (.cel b),some (.int m),some (.int far)]) ds) h P
 | [],h,P,q,k=>by
  rw [zbj,zan]
  exact k [] h (Ext.refl q) rfl fun r hr=>by cases hr
 | d::r,h,P,q,k=>by
  rw [zbj]
  simp only [zam,zbc,zdG,List.set,pure_bind,if_true,zcF,zfU,zaI,za2,zbC,zaL,zaE,bind_assoc,zbD]
  refine zks q m0 m1 fun ts h2 hr hne x2=> ?_
  simp only [zam,zcs,zfa,zbC,zaI,za2,zaL,zaE,pure_bind,bind_assoc,zbD]
  refine zb3 x2.1 f0 f1 fun t h3 t0 t1 x3=> ?_
  simp only [zc9,pure_bind,zan,zam,qaE,qaJ,zaJ (show 0+1+1<=1000 by decide),zij]
  have x4:=x3.1.push (c:= .lst [.tup ts,.int (1+t)])
  obtain ⟨xs,rfl⟩:=zhH (zfS hr)
  refine zjT m0 m1 f0 f1 r x4.1 fun rs h' x5 hl hr'=> ?_
  refine k (.cel h3.length::rs) h' (((x2.trans x3).trans x4).trans x5) (by simp [hl]) fun y hy=> ?_
  rcases qaP.mp hy with rfl | hy
  ·exact Row.ext x4.1 x5 ⟨h3.length,xs,1+t,rfl,by simp,hr,fun z=>hne (by rw [z];rfl),⟨by omega,by omega⟩⟩
  ·exact hr' y hy
noncomputable def zm7 (h:Hh) (i:Int) (d:D):Bool:=match d with
 | .cel n=>match h[n]? with
  | some (.lst (.tup ts::_))=>match zdU ts with
   | some xs=>xs.any (· == i)
   | none=>false
  | _=>false
 | _=>false
noncomputable def ziz (h:Hh) (d:D):D:=match d with
 | .cel n=>match h[n]? with
  | some (.lst ds)=> .tup ds
  | _=> .non
 | _=> .non
theorem zns {m:Int} {h:Hh}: ∀ {rs:List D},(∀ r∈rs,Row m h r)-> ∃ ps,zjg h rs=some ps/\PyData.canLayAll0 ps=true/\ps.length=rs.length
 | [],_=>⟨[],rfl,rfl,rfl⟩
 | d::r,hr=>by
  obtain ⟨n,xs,p,rfl,e,_⟩:=hr d qau
  obtain ⟨ps,e1,e2,e3⟩:=zns fun y hy=>hr y (qan _ hy)
  refine ⟨.list [.tuple (xs.map .int),.int p]::ps,?_,?_,by simp [e3]⟩
  ·simp only [zjg,pdH,e,pdL,pd,zep,Option.map,e1]
  ·simp [PyData.canLayAll0,PyData.canLay0,zbH,e2]
theorem zoG {m:Int} {h:Hh} {rs:List D} {P:D->Hh->Prop} (hr: ∀ r∈rs,Row m h r) (q:P (.bl rs.isEmpty) h):wp (zrw (.lst rs) (.lst [])) h P:=by
 obtain ⟨ps,e1,e2,e3⟩:=zns hr
 refine ⟨.bl rs.isEmpty,h,?_,q⟩
 unfold zrw
 have a1:pdH h (.lst rs)=some (.list ps):=by simp only [pdH,e1,Option.map]
 have a2:pdH h (.lst [])=some (.list []):=by simp only [pdH,zjg,Option.map]
 rw [a1,a2]
 have c:zf4 (.list ps) (.list [])=true:=by
  unfold zf4
  simp [PyData.canLay0,PyData.canLayAll0,e2,PyData.depth,PyData.depthAll]
 simp only [c,if_true]
 cases ps with
 | nil=>
  cases rs with
  | nil=>rfl
  | cons _ _=>cases e3
 | cons _ _=>
  cases rs with
  | nil=>cases e3
  | cons _ _=>rfl
def Cov (rows:List D) (h:Hh) (j:Int):Prop:= ∃ r∈rows, ∃ (n:Nat) (xs:List Int) (p:Int),r= .cel n/\h[n]? = some (.lst [.tup (xs.map D.int),.int p])/\j∈xs
theorem Cov.ext {b:Nat} {rows:List D} {h h':Hh} {j:Int} (q:Bx b h) (x:Ext b h h') (r:Cov rows h j):Cov rows h' j:=by
 obtain ⟨d,hd,n,ts,p,e,e2,r⟩:=r
 have hn:n≠b:=fun z=>by
  subst z
  obtain ⟨y,e3⟩:=q
  rw [e3] at e2
  cases e2
 exact ⟨d,hd,n,ts,p,e,x.2 n _ hn e2,r⟩
theorem zgm {b:Nat} {m far:Int} {s1 s2:Option D} {rows:List D} (m0:1<=m) (m1:m<=10) (hne:rows≠[]) (hl:rows.length<=12): ∀ (ds:List D) (dn:List Int) {h:Hh} {x6 x7:Option D} {P:Out->Hh->Prop},Bx b h->(∀ d∈ds, ∃ i:Int,d= .int i/\0<=i/\i<m)->(∀ r∈rows,Row m h r)->(∀ j∈dn,Cov rows h j)->
  (∀ x6' x7' h',Bx b h'->(∀ r∈rows,Row m h' r)->(∀ j,j∈dn\/D.int j∈ds->Cov rows h' j)->P (.nx [some (.cel b),s1,s2,some (.int m),some (.int far),some (.lst rows),x6',x7']) h')->
  wp (za1 (fun x sd=>do let sd1<-zaG 6 x sd;zbv sd1) ds [some (.cel b),s1,s2,some (.int m),some (.int far),some (.lst rows),x6,x7]) h P
 | [],dn,h,x6,x7,P,q,_,hr,hc,k=>by
  rw [zdq,zan]
  exact k _ _ h q hr fun j hj=>hc j (hj.elim id fun z=>by cases z)
 | d::r,dn,h,x6,x7,P,q,hd,hr,hc,k=>by
  obtain ⟨i,rfl,i0,i1⟩:=hd _ qau
  have hd':=fun y hy=>hd y (qan _ hy)
  have ih: ∀ {h:Hh} {x6 x7:Option D},Bx b h->(∀ r∈rows,Row m h r)->(∀ j∈i::dn,Cov rows h j)->wp (za1 (fun x sd=>do let sd1<-zaG 6 x sd;zbv sd1) r [some (.cel b),s1,s2,some (.int m),some (.int far),some (.lst rows),x6,x7]) h P:=fun q hr hc=>zgm m0 m1 hne hl r (i::dn) q hd' hr hc fun x6' x7' h' q' hr' hc'=>k x6' x7' h' q' hr' fun j hj=>hc' j (by
    rcases hj with hj | hj
    · exact .inl (qan _ hj)
    · rcases qaP.mp hj with z | z
      · cases z;exact .inl qau
      · exact .inr z)
  rw [zcj]
  generalize za1 (fun x sd=>do let sd1<-zaG 6 x sd;zbv sd1) r=rest at ih ⊢
  simp only [zdG,List.set,pure_bind,zbv,zkO,zey,zam]
  refine zi7 (k:=fun d=>if zm7 h i d=true then some d else none) (ds:=rows) (by simp) (by omega) (fun x hx=> ?_) ?_
  ·obtain ⟨n,xs,p,rfl,e,_⟩:=hr x hx
   have eb:zak [none,some 6] [some (.cel b),s1,s2,some (.int m),some (.int far),some (.lst rows),some (.int i),x7]=[none,some (D.int i)]:=rfl
   rw [eb]
   simp only [zbc,zdG,List.set,pure_bind,zdn,zey,zaL,zaE,zcs,zfa,ziB,bind_assoc,zam,zbV e,zkf,ze5,zan,zds,zea,zdt,zm7,e,zbY]
   rw [znc]
   split
   ·simp_all [zan,zaE,zam]
   ·simp_all [zan]
  ·simp only [zh2,za2,pure_bind,qaJ,zaJ (show 0<=1000 by decide),zam,zan]
   refine zoG (m:=m) (fun y hy=> ?_) ?_
   ·obtain ⟨z,hz,ez⟩:=List.mem_filterMap.mp hy
    split at ez
    ·cases ez;exact hr _ hz
    ·cases ez
   simp only [zea,zan]
   rw [znc]
   split
   ·rename_i c
    have none_has: ∀ y∈rows,zm7 h i y=false:=fun y hy=>by
     cases z:zm7 h i y with
     | false=>rfl
     | true=>
      have:y∈rows.filterMap fun d=>if zm7 h i d=true then some d else none:=List.mem_filterMap.mpr ⟨y,hy,by rw [z];rfl⟩
      rw [List.isEmpty_iff.mp c] at this
      cases this
    have hpos:0<rows.length:=List.length_pos_iff.mpr hne
    simp only [zbg,zcM,zcs,zaL,zaE,pure_bind,bind_assoc,zbC,zaI,za2,zkT,zbD,zam]
    refine zb3 q (by omega) (by omega) fun t h2 t0 t1 x2=> ?_
    have ht:t.toNat<rows.length:=by omega
    have ea:atI rows t=some rows[t.toNat]:=by
     have:=zfw (xs:=rows) (j:=t.toNat) (v:=rows[t.toNat]) (by simp [ht])
     rw [<- this]
     congr 1
     omega
    have hrow:=hr rows[t.toNat] (List.getElem_mem ht)
    have hno:=none_has rows[t.toNat] (List.getElem_mem ht)
    have hmem:rows[t.toNat]∈rows:=List.getElem_mem ht
    generalize rows[t.toNat]=row at ea hrow hno hmem
    obtain ⟨n,xs,p,rfl,e,hrs,hx0,hp0⟩:=hrow
    have hni:i∉xs:=fun z=>by
     simp only [zm7,e,zbY] at hno
     have:xs.any (· == i)=true:=List.any_eq_true.mpr ⟨i,z,by simp⟩
     rw [this] at hno
     cases hno
    have hnb:n≠b:=fun z=>by
     subst z
     obtain ⟨y,e3⟩:=q
     rw [e3] at e
     cases e
    have e2:=x2.2 n _ hnb e
    obtain ⟨hpw,hbd⟩:=zbK.mp hrs
    have hxl:(xs.length:Int)<=m:=by have:=zek hrs (by omega);simpa using this
    have esn:((xs.map D.int)++[D.int i])=(xs++[i]).map D.int:=by simp
    simp only [zeP,ea,ze5,zan,zf8,List.set,zib,zbC,zaI,za2,zcs,zaL,zaE,zfa,pure_bind,bind_assoc,ziB,zam,zbV e2,zkf,zgi,qaE,qaJ,zaJ (show 0+1<=1000 by decide),zmW,qaH,
      zaJ (show xs.length+(0+1)<=1000 by omega),esn,ziI (show (xs++[i]).length<64 by simp;omega),zgb,zhB,zkn]
    have e3:ixN (0+1+1) 0=some 0:=rfl
    simp only [zam,zbV e2,qaE,qaJ,e3,ze5,zan,zfi,List.set]
    have hlt:n<h2.length:=(qac.mp e2).1
    refine ih ?_ ?_ ?_
    ·obtain ⟨y,ey⟩:=x2.1
     exact ⟨y,by rw [qao hnb];exact ey⟩
    ·intro y hy
     obtain ⟨n',xs',p',rfl,e',r1,r2,r3⟩:=Row.ext q x2 (hr y hy)
     by_cases hnn:n'=n
     ·subst hnn
      refine ⟨n',zb7 (xs++[i]),p,rfl,qai hlt,zbK.mpr ⟨zoc hpw hni,fun z hz=> ?_⟩,fun z=> ?_,hp0⟩
      ·have:=(zaD (xs++[i])).mem_iff.mp hz
       rcases qaK.mp this with w | w
       ·exact hbd z w
       ·simp at w;omega
      ·have:=(zaD (xs++[i])).length_eq
       rw [z] at this
       simp at this
     ·exact ⟨n',xs',p',rfl,by rw [qao (Ne.symm hnn)];exact e',r1,r2,r3⟩
    ·intro j hj
     rcases qaP.mp hj with rfl | hj
     ·exact ⟨.cel n,hmem,n,zb7 (xs++[j]),p,rfl,qai hlt,(zaD (xs++[j])).mem_iff.mpr (by simp)⟩
     ·obtain ⟨y,hy,n',xs',p',rfl,e',hj'⟩:=Cov.ext q x2 (hc j hj)
      by_cases hnn:n'=n
      ·subst hnn
       rw [e2] at e'
       have exs:xs=xs':=by
        have z:xs.map D.int=xs'.map D.int:=by injection (Option.some.inj e') with z;simpa using (List.cons.inj z).1
        exact (List.map_inj_right fun a b h=>by injection h).mp z
       subst exs
       exact ⟨_,hy,n',zb7 (xs++[i]),p,rfl,qai hlt,(zaD (xs++[i])).mem_iff.mpr (List.mem_append_left _ hj')⟩
      ·exact ⟨_,hy,n',xs',p',rfl,by rw [qao (Ne.symm hnn)];exact e',hj'⟩
   ·rename_i c
    simp only [zgP,zan]
    refine ih q hr fun j hj=> ?_
    rcases qaP.mp hj with rfl | hj
    ·obtain ⟨y,hy⟩:=List.exists_mem_of_ne_nil (rows.filterMap fun d=>if zm7 h j d=true then some d else none) (fun z=>c (by rw [z];rfl))
     obtain ⟨z,hz,ez⟩:=List.mem_filterMap.mp hy
     split at ez
     ·rename_i c2
      obtain ⟨n,xs,p,rfl,e,_⟩:=hr z hz
      simp only [zm7,e,zbY] at c2
      obtain ⟨k,hk,ek⟩:=List.any_eq_true.mp c2
      exact ⟨_,hz,n,xs,p,rfl,e,(show k=j by simpa using ek)▸hk⟩
     ·cases ez
    ·exact hc j hj
theorem zoN {h:Hh} {b:Nat} {lots:Int} {P:D->Hh->Prop} (z0:1<=lots) (z1:lots<=12) (q:Bx b h) (k: ∀ (m:Int) (os:List D) h',Bx b h'->1<=m->m<=10->1<=os.length->os.length<=12->(∀ o∈os,zgo m o=true)->(∀ i:Int,0<=i->i<m-> ∃ o∈os, ∃ (xs:List Int) (p:Int),o= .tup [.tup (xs.map D.int),.int p]/\i∈xs)->P (.tup [.int m,.tup os]) h'):wp (F_33 [.cel b,.int 10,.int lots]) h P:=by
 rw [d_33]
 simp only [G_33,zbg,zcM,zcs,zfa,zbC,zaI,za2,zaE,zaL,pure_bind,bind_assoc,zbD,zam]
 refine zb3 q (by decide) (by decide) fun t h2 t0 t1 x2=> ?_
 simp only [zc9,pure_bind,zan,zf8,List.set,zbg,zcM,zcs,zh2,zaI,za2,zfa,zo7,bind_assoc,zam,qaE,qaJ,zaJ (show 0+1+1+1+1<=1000 by decide),zbC,zaE,zaL,zbD]
 refine zb3 x2.1 (by decide) (by decide) fun f h3 f0 f1 x3=> ?_
 obtain ⟨far,ef,g0,g1⟩: ∃ far:Int,atI [D.int 3,.int 9,.int 50,.int 1000000000000] f=some (.int far)/\0<far/\far<2^64:=by
  have:f=0\/f=1\/f=2\/f=3:=by omega
  rcases this with rfl | rfl | rfl | rfl
  ·exact ⟨3,rfl,by decide,by decide⟩
  ·exact ⟨9,rfl,by decide,by decide⟩
  ·exact ⟨50,rfl,by decide,by decide⟩
  ·exact ⟨1000000000000,rfl,by decide,by decide⟩
 simp only [zeP,ef,ze5,zan,zf8,List.set,zbg,zcM,zam]
 unfold zaK
 simp only [zgJ,zaI,za2,zcs,zfa,zbC,zaE,zaL,pure_bind,bind_assoc,zbD,zam]
 refine zb3 x3.1 (by omega) (by omega) fun u h4 u0 u1 x4=> ?_
 have eb:zak [none,some 0,some 3,some 4] [some (.cel b),some (.int 10),some (.int lots),some (.int (1+t)),some (.int far),none,none,none]=[none,some (D.cel b),some (.int (1+t)),some (.int far)]:=rfl
 simp only [zc9,pure_bind,zdg (show 0<=1+u by omega) (show 1+u<1000 by omega),zfC,zaJ (show (1+u).toNat<=1000 by omega),eb,zam,zan]
 refine zjT (by omega) (by omega) g0 g1 _ x4.1 fun rows h5 x5 hl hr=> ?_
 rw [zfC] at hl
 simp only [zan,zf8,List.set,zbg,zjD,zgJ,zaI,za2,zaL,zaE,pure_bind,zdg (show 0<=1+t by omega) (show 1+t<1000 by omega),zam]
 refine zgm (by omega) (by omega) (fun z=>by rw [z] at hl;simp at hl;omega) (by omega) _ [] x5.1 (fun d hd=> ?_) hr (fun j hj=>by cases hj) fun x6 x7 h6 q6 hr6 hc6=> ?_
 ·obtain ⟨i,e,i0,i1⟩:=zfx hd
  exact ⟨i,e,i0,by omega⟩
 simp only [zf8,zda,zgi,zaI,za2,zaL,zaE,pure_bind,bind_assoc,zbC,zam]
 have eb6:zak [none] [some (.cel b),some (.int 10),some (.int lots),some (.int (1+t)),some (.int far),some (.lst rows),x6,x7]=[none]:=rfl
 simp only [zqK,zaL,zaE,pure_bind,zrm,zan,zaJ (show rows.length<=1000 by omega),eb6]
 refine zdS (k:=fun d=>some (ziz h6 d)) (fun x hx=> ?_) ?_
 ·obtain ⟨n,xs,p,rfl,e,_⟩:=hr6 x hx
  simp only [zbc,zdG,List.set,pure_bind,if_true,zdJ,zgi,zaI,za2,zcs,zaE,zfa,ziB,bind_assoc,zam,zbV e,zkf,zqZ,ze5,zan,qaE,qaJ,zaJ (show 0+1+1<=1000 by decide),ziz,e]
  exact ⟨trivial,trivial⟩
 ·simp only [zgb,zan,pure_bind,qaE,qaJ,zaJ (show 0+1+1<=1000 by decide),zfK,zam]
  have em:(rows.filterMap fun d=>some (ziz h6 d))=rows.map (ziz h6):=by simp
  rw [em]
  refine k (1+t) _ h6 q6 (by omega) (by omega) (by simp;omega) (by simp;omega) (fun o ho=> ?_) fun i i0 i1=> ?_
  rotate_left
  ·obtain ⟨r,hr',n,xs,p,rfl,e,hi⟩:=hc6 i (.inr (by rw [zfz,qaU];exact ⟨i,qaU.mpr ⟨i.toNat,List.mem_range.mpr (by omega),by omega⟩,rfl⟩))
   exact ⟨_,qaU.mpr ⟨_,hr',rfl⟩,xs,p,by simp only [ziz,e],hi⟩
  obtain ⟨r,hr',rfl⟩:=qaU.mp ho
  obtain ⟨n,xs,p,rfl,e,r1,r2,r3⟩:=hr6 r hr'
  have hx:0<(xs.length:Int):=by
   have:=List.length_pos_iff.mpr r2
   omega
  simp only [ziz,e,zgo,r1,qaH]
  simp [hx,r3]
  exact ⟨List.length_pos_iff.mpr r2,r3.2⟩
theorem zhS {n:Nat} {s0:Option D}: ∀ (os:List (List Int×Int)) {h:Hh} {xs:List Int} {x2:Option D} {P:Out->Hh->Prop},h[n]? = some (.lst (xs.map D.int))->xs.length+(os.flatMap (·.1)).length<=1000->
  (∀ x2' h',(∀ k,k≠n->h'[k]? = h[k]?)->h'.length=h.length->h'[n]? = some (.lst ((xs++os.flatMap (·.1)).map D.int))->P (.nx [s0,some (.cel n),x2']) h')->
  wp (za1 (fun x sd=>do let sd1<-zaG 2 x sd;za9 sd1) (os.map zb8) [s0,some (.cel n),x2]) h P
 | [],h,xs,x2,P,e,_,k=>by
  rw [List.map_nil,zdq,zan]
  exact k x2 h (fun _ _=>rfl) rfl (by simpa using e)
 | o::os,h,xs,x2,P,e,hl,k=>by
  have hln:=(qac.mp e).1
  rw [List.flatMap_cons,qav] at hl
  have ih:=fun (x2':Option D)=>zhS (s0:=s0) (n:=n) os (h:=h.set n (.lst ((xs++o.1).map D.int))) (xs:=xs++o.1) (x2:=x2') (P:=P) (qai hln) (by rw [qav];omega) fun x2'' h' h1 h2 h3=>k x2'' h' (fun j hj=>(h1 j hj).trans (qao (Ne.symm hj))) (h2.trans (qaI ..)) (by rw [h3,List.flatMap_cons,List.append_assoc])
  rw [qaM,zcj]
  generalize za1 (fun x sd=>do let sd1<-zaG 2 x sd;za9 sd1) (os.map zb8)=rest at ih ⊢
  have f:=zaJ (show (xs.map D.int).length+(o.1.map D.int).length<=1000 by rw [qaH,qaH];omega)
  simp only [qaH] at f
  simp only [za9]
  ac_nf0
  simp only [zam,zbV e,zan,qaH,f,zfi, <-List.map_append]
  exact ih _
theorem zpI {d:D} {os:List (List Int×Int)} {m:Int} (hd:zdx d=pure (os.map zb8)) (m0:0<=m) (m1:m<=60) (hl:(os.flatMap (·.1)).length<=1000) (b: ∀ o∈os, ∀ x∈o.1,0<=x/\x<m):Ev (F_16 [d]) (tI (zeV (os.flatMap (·.1)))):=by
 refine .of_wp fun h=> ?_
 rw [d_16]
 simp only [G_16]
 ac_nf0
 simp only [hd,zan]
 refine zhS os (xs:=[]) (by simp) (by simpa using hl) fun x2 h' h1 h2 h3=> ?_
 ac_nf0
 have bb: ∀ x∈os.flatMap (·.1),0<=x/\x<m:=fun x hx=>by
  obtain ⟨o,ho,hx⟩:=List.mem_flatMap.mp hx
  exact b o ho x hx
 refine zgl (by simpa using h3) (zg8 m0 m1 bb) (by omega) ?_
 ac_nf0
 refine ⟨trivial,⟨[.lst ((os.flatMap (·.1)).map D.int)],List.ext_getElem? fun j=> ?_⟩⟩
 by_cases hj:j=h.length
 ·subst hj
  rw [h3]
  simp
 ·rw [h1 j hj]
  by_cases hlt:j<h.length
  ·rw [qad hlt,qad hlt]
  ·rw [List.getElem?_eq_none (by simp;omega),List.getElem?_eq_none (by simp;omega)]
theorem zl4 {os:List (List Int×Int)} {n:Nat} (h: ∀ o∈os,o.1.length<=n):(os.flatMap (·.1)).length<=os.length*n:=by
 induction os with
 | nil=>simp
 | cons o r ih=>
  rw [List.flatMap_cons,qav,qaE,Nat.succ_mul]
  have a1:=h o qau
  have a2:=ih fun x hx=>h x (qan _ hx)
  omega
theorem zsm (s:Stk m os) {d:D} {os':List (List Int×Int)} (hd:zdx d=pure (os'.map zb8)) (hl:os'.length<=12) (hs: ∀ o∈os',o∈os):Ev (F_17 [zca m os,d]) (.bl (((zeV (os'.flatMap (·.1))).length:Int)==m)):=by
 have tg:=zpI hd (m:=m) (by have:=s.m0;omega) (by have:=s.m1;omega) (by have:=zl4 (os:=os') (n:=10) fun o ho=>s.olen o (hs o ho);omega) fun o ho=>s.bd o (hs o ho)
 refine .of_wp fun h=> ?_
 rw [d_17]
 simp only [G_17,zca]
 ac_nf0
 refine tg.wp fun h' g=> ?_
 ac_nf0
 rw [zn6]
 ac_nf0
 exact ⟨trivial,g⟩
theorem zkp {m:Int} {o:D} (h:zgo m o=true): ∃ (xs:List Int) (p:Int),o=zb8 (xs,p)/\(xs.Pairwise (· < ·)/\ ∀ x∈xs,0<=x/\x<m)/\xs≠[]/\(0<p/\p<2^64):=by
 unfold zgo at h
 split at h
 ·rename_i ts p
  simp only [qaG,qaD] at h
  obtain ⟨⟨h1,h2⟩,h3⟩:=h
  obtain ⟨xs,rfl⟩:=zhH (zfS h1)
  exact ⟨xs,p,rfl,zbK.mp h1,fun z=>by rw [z] at h2;simp at h2,h3⟩
 ·cases h
theorem zmS {m:Int} (m0:1<=m) (m1:m<=10): ∀ {ds:List D},ds.length<=12->(∀ o∈ds,zgo m o=true)-> ∃ os,ds=os.map zb8/\Stk m os/\ ∀ o∈os,o.2<2^64
 | [],_,_=>⟨[],rfl,⟨m0,m1,by simp,by simp,by simp,by simp,by simp⟩,by simp⟩
 | d::r,hl,h=>by
  obtain ⟨os,e,s,hP⟩:=zmS m0 m1 (ds:=r) (by simp at hl;omega) fun o ho=>h o (qan _ ho)
  obtain ⟨xs,p,e1,⟨h1,h2⟩,h3,h4,h5⟩:=zkp (h d qau)
  have hlen:((xs,p)::os).length<=12:=by rw [e] at hl;simpa using hl
  refine ⟨(xs,p)::os,by rw [qaM,e,e1],⟨m0,m1,hlen,?_,?_,?_,?_⟩,fun o ho=>by
    rcases qaP.mp ho with rfl | ho
    · exact h5
    · exact hP o ho⟩
  ·intro o ho
   rcases qaP.mp ho with rfl | ho
   ·exact h1
   ·exact s.up o ho
  ·intro o ho
   rcases qaP.mp ho with rfl | ho
   ·exact h2
   ·exact s.bd o ho
  ·intro o ho
   rcases qaP.mp ho with rfl | ho
   ·exact h3
   ·exact s.ne o ho
  ·intro o ho
   rcases qaP.mp ho with rfl | ho
   ·exact h4
   ·exact s.pos o ho
theorem zlS {m:Int} {os:List (List Int×Int)} (s:Stk m os) {h:Hh} {b:Nat} {P:D->Hh->Prop} (q:Bx b h) (k: ∀ os' h',Stk m os'->(∃ t:Int,0<=t/\t<m/\ ∀ o∈os',t∉o.1)->Ext b h h'->P (zca m os') h'):wp (F_34 [.cel b,zca m os]) h P:=by
 have m0:=s.m0
 have m1:=s.m1
 have hl:=s.len
 rw [d_34]
 simp only [G_34,zca]
 ac_nf0
 refine zb3 q (by omega) (by omega) fun t h2 t0 t1 x2=> ?_
 ac_nf0
 have e1:zaK (iSq (zaf 3)) (zbp 2 (zar (zaG 0) (zar (zaG 1) zbq))) (fun _=>pure true) zcl [none,none,some 4] [some (.cel b),some (.tup [.int m,.tup (os.map zb8)]),some (.int m),some (.tup (os.map zb8)),some (.int t),none]
   = pure (.lst ((os.map fun o=>(o.1.filter fun x=> !(x==t),o.2)).map zb8)):=by
  rw [zgc (ds:=os.map zb8) (k:=fun d=>match d with | .tup [.tup ts,p]=> .tup [.tup (ts.filter fun d=>match d with | .int x=> !(x==t) | _=>true),p] | d=>d) (by ac_nf0) (by rw [qaH];omega) ?_]
  ·rw [qaT,qaT]
   congr 2
   refine List.map_congr_left fun o _=> ?_
   simp only [Function.comp,zb8,tI]
   congr 2
   rw [List.filter_map]
   rfl
  ·intro x hx
   obtain ⟨o,ho,rfl⟩:=qaU.mp hx
   have eb:zak [none,none,some 4] [some (.cel b),some (.tup [.int m,.tup (os.map zb8)]),some (.int m),some (.tup (os.map zb8)),some (.int t),none]=[none,none,some (.int t)]:=rfl
   rw [eb]
   simp only [zbc,zcl]
   ac_nf0
   have e2:zaK (iSq (zaf 0)) (zaG 0) zck zcm [none,some 2] [some (.tup (o.1.map D.int)),some (.int o.2),some (.int t)]=pure (.lst ((o.1.filter fun x=> !(x==t)).map D.int)):=by
    rw [<- zdb (k:=fun d=>match d with | .int x=>if (!(x==t))=true then some (.int x) else none | d=>none) fun _=>rfl]
    refine zcY (by ac_nf0) (by rw [qaH];have:=s.olen o ho;omega) fun x hx=> ?_
    obtain ⟨i,_,rfl⟩:=qaU.mp hx
    have eb:zak [none,some 2] [some (.tup (o.1.map D.int)),some (.int o.2),some (.int t)]=[none,some (.int t)]:=rfl
    rw [eb]
    simp only [zbc,zck,zcm]
    ac_nf0
    rw [zrx]
    ac_nf0
    split<;>rfl
   simp only [if_true,e2]
   ac_nf0
   congr 3
   rw [List.filter_map]
   rfl
 rw [e1]
 ac_nf0
 generalize hos:(os.map fun o=>(o.1.filter fun x=> !(x==t),o.2))=os1
 have e3:zaK (iSq (zaf 5)) (zaG 0) zcr zcn [none] [some (.cel b),some (.tup [.int m,.tup (os.map zb8)]),some (.int m),some (.tup (os.map zb8)),some (.int t),some (.lst (os1.map zb8))]
   = pure (.lst ((os1.filter fun o=> !o.1.isEmpty).map zb8)):=by
  have e4:(os1.map zb8).filterMap (fun d=>match d with | .tup [.tup ts,p]=>if (!ts.isEmpty)=true then some (.tup [.tup ts,p]) else none | d=>none)=(os1.filter fun o=> !o.1.isEmpty).map zb8:=by
   clear hos e1
   induction os1 with
   | nil=>rfl
   | cons o r ih=>
    rw [qaM,qat,ih,List.filter_cons]
    simp only [zb8,tI]
    obtain ⟨ts,p⟩:=o
    cases ts<;>simp [zb8,tI]
  rw [<- e4]
  refine zcY (by ac_nf0) (by rw [qaH, <-hos,qaH];omega) fun x hx=> ?_
  obtain ⟨o,_,rfl⟩:=qaU.mp hx
  have eb: ∀ sd,zak [none] sd=[none]:=fun _=>rfl
  rw [eb]
  simp only [zbc,zcr,zcn]
  ac_nf0
  have e5:=zmw o.1
  unfold tI at e5
  rw [e5]
  ac_nf0
  simp only [List.isEmpty_map]
  split<;>rfl
 rw [e3]
 ac_nf0
 suffices hS:Stk m (os1.filter fun o=> !o.1.isEmpty)/\ ∃ t:Int,0<=t/\t<m/\ ∀ o∈os1.filter fun o=> !o.1.isEmpty,t∉o.1 from k _ h2 hS.1 hS.2 x2
 have hm: ∀ o∈os1.filter fun o=> !o.1.isEmpty, ∃ o'∈os,o=(o'.1.filter fun x=> !(x==t),o'.2)/\o.1≠[]:=fun o ho=>by
  obtain ⟨h1,h2⟩:=List.mem_filter.mp ho
  rw [<- hos] at h1
  obtain ⟨o',h3,rfl⟩:=qaU.mp h1
  exact ⟨o',h3,rfl,by intro e;rw [e] at h2;simp at h2⟩
 refine ⟨?_,t,t0,t1,fun o ho=> ?_⟩
 rotate_left
 ·obtain ⟨o',h1,rfl,_⟩:=hm o ho
  intro z
  simpa using (List.mem_filter.mp z).2
 refine ⟨m0,m1,?_,fun o ho=> ?_,fun o ho=> ?_,fun o ho=> ?_,fun o ho=> ?_⟩
 ·have:=List.length_filter_le (fun o:List Int×Int=> !o.1.isEmpty) os1
  rw [<- hos,qaH] at this
  rw [<- hos]
  omega
 ·obtain ⟨o',h1,rfl,_⟩:=hm o ho
  exact (s.up o' h1).filter _
 ·obtain ⟨o',h1,rfl,_⟩:=hm o ho
  exact fun x hx=>s.bd o' h1 x (List.mem_filter.mp hx).1
 ·exact (hm o ho).choose_spec.2.2
 ·obtain ⟨o',h1,rfl,_⟩:=hm o ho
  exact s.pos o' h1
theorem zlM:dIx (zca m os) (.int 1)=pure (.tup (os.map zb8)):=rfl
theorem zoo:dIx (zca m os) (.int 0)=pure (.int m):=rfl
noncomputable def zi9 (m:Int) (os:List (List Int×Int)):Bool:=((zeV (os.flatMap (·.1))).length:Int)==m
theorem zjy (s:Stk m os):Ev (F_14 [zca m os]) (.bl (zi9 m os)):=by
 have e:=zsm s (d:= .tup (os.map zb8)) (os':=os) rfl s.len fun o ho=>ho
 refine .of_wp fun h=> ?_
 rw [d_14]
 simp only [G_14]
 ac_nf0
 rw [zlM]
 ac_nf0
 refine e.wp fun h' g=> ?_
 ac_nf0
 first | exact ⟨g,rfl⟩ | exact ⟨trivial,g⟩ | exact ⟨g,trivial⟩ | exact g
theorem zhe (s:Stk m os):zi9 m os=true↔ ∀ t:Int,0<=t->t<m-> ∃ o∈os,t∈o.1:=by
 have m0:=s.m0
 have hbd: ∀ x∈zeV (os.flatMap (·.1)),0<=x/\x<m:=fun x hx=>by
  obtain ⟨o,ho,hx⟩:=List.mem_flatMap.mp (zc0.mp hx)
  exact s.bd o ho x hx
 have hf:=zn7 (by omega) (zeM _) hbd
 unfold zi9
 rw [<- hf,beq_iff_eq]
 constructor
 ·intro e t t0 t1
  have:t∈zeV (os.flatMap (·.1)):=by
   rw [e]
   exact qaU.mpr ⟨t.toNat,List.mem_range.mpr (by omega),by omega⟩
  exact List.mem_flatMap.mp (zc0.mp this)
 ·intro h
  refine List.Perm.eq_of_pairwise (le:=fun a b:Int=>a<b) (fun a b _ _ h1 h2=>by omega) (zeM _) (zeB _) ?_
  refine (List.perm_ext_iff_of_nodup ((zeM _).imp fun z=>by omega) ((zeB _).imp fun z=>by omega)).mpr fun x=> ?_
  constructor
  ·intro hx
   have:=hbd x hx
   exact qaU.mpr ⟨x.toNat,List.mem_range.mpr (by omega),by omega⟩
  ·intro hx
   have:=zgF x hx
   obtain ⟨o,ho,h2⟩:=h x (by omega) (by omega)
   exact zc0.mpr (List.mem_flatMap.mpr ⟨o,ho,h2⟩)
theorem zpd (s:Stk m os) (hf:zi9 m os=true):Ev (F_15 [zca m os]) .non:=by
 have e:=zjy s
 rw [hf] at e
 refine .of_wp fun h=> ?_
 rw [d_15]
 simp only [G_15]
 ac_nf0
 refine e.noX.wp fun h' g=> ?_
 ac_nf0
 first | exact ⟨trivial,g⟩ | exact ⟨g,trivial⟩ | exact g
theorem zpa (s:Stk m os) (hf:zi9 m os=false):EvX (F_15 [zca m os]) "NotFull":=by
 have e:=zjy s
 rw [hf] at e
 rw [d_15]
 simp only [G_15]
 ac_nf0
 refine Ev.bindX e.noX ?_
 ac_nf0
 exact .raise
theorem zq1 (s:Stk m os) (hc: ∀ i:Int,0<=i->i<m-> ∃ o∈os.map zb8, ∃ (xs:List Int) (p:Int),o= .tup [.tup (xs.map D.int),.int p]/\i∈xs):zi9 m os=true:=by
 refine (zhe s).mpr fun t t0 t1=> ?_
 obtain ⟨o,ho,xs,p,rfl,hx⟩:=hc t t0 t1
 obtain ⟨o',ho',e⟩:=qaU.mp ho
 refine ⟨o',ho',?_⟩
 have e1:o'.1.map D.int=xs.map D.int:=by
  simp only [zb8,tI] at e
  injection e with e
  injection e with e _
  injection e
 have e2:o'.1=xs:=(List.map_inj_right fun a b h=>by injection h).mp e1
 rw [e2]
 exact hx
theorem zqv (s:Stk m os) (h: ∃ t:Int,0<=t/\t<m/\ ∀ o∈os,t∉o.1):zi9 m os=false:=by
 obtain ⟨t,t0,t1,hn⟩:=h
 cases hb:zi9 m os with
 | false=>rfl
 | true=>
  obtain ⟨o,ho,hx⟩:=(zhe s).mp hb t t0 t1
  exact absurd hx (hn o ho)
theorem zf1 (a b:Nat):Nat.gcd a b=Nat.gcd b (a % b):=by rw [Nat.gcd_comm a b,Nat.gcd_rec b a,Nat.gcd_comm]
theorem zoY {s0 s1:Option D} {n a:Nat} {x4:Option D}:zbG zah zai (n+1) [s0,s1,some (.int (a:Int)),some (.int ((0:Nat):Int)),x4]=pure (.nx [s0,s1,some (.int (a:Int)),some (.int 0),x4]):=by
 rw [zdl]
 simp only [zah]
 ac_nf0
 rfl
theorem znZ {s0 s1:Option D} {n a b:Nat} {x4:Option D} (hb:b≠0):zbG zah zai (n+1) [s0,s1,some (.int (a:Int)),some (.int (b:Int)),x4]=zbG zah zai n [s0,s1,some (.int (b:Int)),some (.int ((a % b:Nat):Int)),some (.int ((a % b:Nat):Int))]:=by
 rw [zdl]
 generalize zbG zah zai n=rest
 simp only [zah,zai]
 ac_nf0
 rw [show decide ((0:Int)<(b:Int))=true by rw [qaD];omega]
 ac_nf0
 rw [zcW (by omega)]
 ac_nf0
 rfl
theorem zky {s0 s1:Option D}: ∀ (k n a b:Nat) (x4:Option D),b<=a->a*b<2^k->k<n-> ∃ y4,zbG zah zai n [s0,s1,some (.int (a:Int)),some (.int (b:Int)),x4]=pure (.nx [s0,s1,some (.int (Nat.gcd a b:Int)),some (.int 0),y4])
 | k,0,a,b,x4,_,_,h=>by omega
 | k,n+1,a,b,x4,hab,hk,h=>by
  by_cases hb:b=0
  ·subst hb
   exact ⟨x4,by rw [zoY,Nat.gcd_zero_right]⟩
  ·cases k with
   | zero=>
    have:1<=a*b:=Nat.mul_pos (by omega) (Nat.pos_of_ne_zero hb)
    omega
   | succ k=>
    obtain ⟨y4,ih⟩:=zky (s0:=s0) (s1:=s1) k n b (a % b) (some (.int ((a % b:Nat):Int))) (Nat.le_of_lt (Nat.mod_lt a (Nat.pos_of_ne_zero hb))) (euc hb hab hk) (by omega)
    exact ⟨y4,by rw [znZ hb,ih,zf1 a b]⟩
theorem zpS {b r:Nat} (hb:b<bb) (h:r<=b):b*r<2^14000:=by
 have h1:b*r<=b*b:=Nat.mul_le_mul_left b h
 have h2:b*b<bb*bb:=Nat.mul_lt_mul'' hb hb
 have h3:bb*bb=2^14000:=by
  unfold bb
  rw [<- Nat.pow_add]
 omega
theorem zlj {s0 s1:Option D} {n:Nat} {a:Int} {b:Nat} {x4:Option D} (hb:b≠0):zbG zah zai (n+1) [s0,s1,some (.int a),some (.int (b:Int)),x4]=zbG zah zai n [s0,s1,some (.int (b:Int)),some (.int (((a % (b:Int)).toNat:Nat):Int)),some (.int (((a % (b:Int)).toNat:Nat):Int))]:=by
 have e:(((a % (b:Int)).toNat:Nat):Int)=a % (b:Int):=Int.toNat_of_nonneg (Int.emod_nonneg _ (by omega))
 rw [zdl,e]
 generalize zbG zah zai n=rest
 simp only [zah,zai]
 ac_nf0
 rw [show decide ((0:Int)<(b:Int))=true by rw [qaD];omega]
 ac_nf0
 rw [zcW (by omega)]
 ac_nf0
theorem zpZ (a:Int) {b:Nat} (hb:0<b):(a % (b:Int)).toNat<=b:=by
 have h1:=Int.emod_lt_of_pos a (b:=(b:Int)) (by omega)
 have h0:=Int.emod_nonneg a (b:=(b:Int)) (by omega)
 omega
theorem ztn {a:Int} {b:Nat} (h0:0<b) (hb:b<bb):F_1 [.int a,.int (b:Int)]=pure (.int (Nat.gcd a.natAbs b:Int)):=by
 have hr:=zpZ a h0
 obtain ⟨y4,ih⟩:=zky (s0:=some (.int a)) (s1:=some (.int (b:Int))) 14000 19999 b (a % (b:Int)).toNat (some (.int (((a % (b:Int)).toNat:Nat):Int))) hr (zpS hb hr) (by decide)
 have e:zbG zah zai 20000 [some (.int a),some (.int (b:Int)),some (.int a),some (.int (b:Int)),none]=pure (.nx [some (.int a),some (.int (b:Int)),some (.int (Nat.gcd a.natAbs b:Int)),some (.int 0),y4]):=by
  rw [show (20000:Nat)=19999+1 from rfl,zlj (by omega),ih,zoH a h0]
 rw [d_1]
 simp only [G_1]
 ac_nf0
 rw [show zfk 20000 zah zai [some (.int a),some (.int (b:Int)),some (.int a),some (.int (b:Int)),none]=zbG zah zai 20000 [some (.int a),some (.int (b:Int)),some (.int a),some (.int (b:Int)),none] from rfl,e]
 ac_nf0
theorem zup {a:Int} {b:Nat} (h0:0<b):qD (mkRat a b)= .tup [.int (a / (Nat.gcd a.natAbs b:Int)),.int ((b:Int) / (Nat.gcd a.natAbs b:Int))]:=by
 unfold qD
 rw [Rat.num_mkRat,Rat.den_mkRat,qa5 (by omega),qa5 (by omega),Nat.gcd_comm b,Int.natCast_ediv]
theorem zi6 {a:Int} {b:Nat} (h0:0<b) (h1:b<bb):F_0 [.int a,.int (b:Int)]=pure (qD (mkRat a b)):=by
 have g0:=Nat.gcd_pos_of_pos_right a.natAbs h0
 have g1:=Nat.gcd_le_right a.natAbs h0
 rw [zup h0,d_0]
 simp only [G_0]
 ac_nf0
 rw [ztn h0 h1]
 ac_nf0
 rw [zcT g0 (by omega),zcT g0 (by omega)]
 ac_nf0
theorem zpg {s0 s1:Option D} {n a:Nat}:zbG zaB zaF (n+1) [s0,s1,some (.int (a:Int)),some (.int ((0:Nat):Int))]=pure (.nx [s0,s1,some (.int (a:Int)),some (.int 0)]):=by
 rw [zdl]
 simp only [zaB]
 ac_nf0
 rfl
theorem zkv {s0 s1:Option D} {n a b:Nat} (hb:b≠0):zbG zaB zaF (n+1) [s0,s1,some (.int (a:Int)),some (.int (b:Int))]=zbG zaB zaF n [s0,s1,some (.int (b:Int)),some (.int ((a % b:Nat):Int))]:=by
 rw [zdl]
 generalize zbG zaB zaF n=rest
 simp only [zaB,zaF,zpA]
 ac_nf0
 rw [show decide ((0:Int)<(b:Int))=true by rw [qaD];omega]
 ac_nf0
 rw [zcW (by omega)]
 ac_nf0
 rfl
theorem zkg {s0 s1:Option D}: ∀ (k n a b:Nat),b<=a->a*b<2^k->k<n->zbG zaB zaF n [s0,s1,some (.int (a:Int)),some (.int (b:Int))]=pure (.nx [s0,s1,some (.int (Nat.gcd a b:Int)),some (.int 0)])
 | k,0,a,b,_,_,h=>by omega
 | k,n+1,a,b,hab,hk,h=>by
  by_cases hb:b=0
  ·subst hb
   rw [zpg,Nat.gcd_zero_right]
  ·cases k with
   | zero=>
    have:1<=a*b:=Nat.mul_pos (by omega) (Nat.pos_of_ne_zero hb)
    omega
   | succ k=>
    have ih:=zkg (s0:=s0) (s1:=s1) k n b (a % b) (Nat.le_of_lt (Nat.mod_lt a (Nat.pos_of_ne_zero hb))) (euc hb hab hk) (by omega)
    rw [zkv hb,ih,zf1 a b]
theorem zhq {a:Int} {b:Nat} (h0:0<b) (h1:b<bb):F_35 [.int a,.int (b:Int)]=pure (qD (mkRat a b)):=by
 have g0:=Nat.gcd_pos_of_pos_right a.natAbs h0
 have g1:=Nat.gcd_le_right a.natAbs h0
 have hr:=Nat.le_of_lt (Nat.mod_lt a.natAbs h0)
 have e:zbG zaB zaF 20000 [some (.int a),some (.int (b:Int)),some (.int (a.natAbs:Int)),some (.int (b:Int))]=pure (.nx [some (.int a),some (.int (b:Int)),some (.int (Nat.gcd a.natAbs b:Int)),some (.int 0)]):=by
  rw [show (20000:Nat)=19999+1 from rfl,zkv (by omega),zkg 14000 19999 b (a.natAbs % b) hr (zpS h1 hr) (by decide),zf1 a.natAbs b]
 have a1: ∀ z:Int,zr2 [.int z]=pure (.int (z.natAbs:Int)):=fun z=>by
  show pure (D.int (if z<0 then -z else z))=_
  congr 2
  split<;>omega
 rw [zup h0,d_35]
 simp only [G_35]
 ac_nf0
 rw [zsu]
 ac_nf0
 rw [a1,a1]
 ac_nf0
 rw [Int.natAbs_natCast]
 rw [show zfk 20000 zaB zaF [some (.int a),some (.int (b:Int)),some (.int (a.natAbs:Int)),some (.int (b:Int))]=zbG zaB zaF 20000 [some (.int a),some (.int (b:Int)),some (.int (a.natAbs:Int)),some (.int (b:Int))] from rfl,e]
 ac_nf0
 rw [zcT g0 (by omega),zcT g0 (by omega)]
 ac_nf0
theorem zgL {d:D} (g:sv d):F_36 [d]=pure (.bl (pF d)):=by
 obtain ⟨k,g⟩:=g
 have et:=ziq k
 rw [d_36]
 simp only [G_36]
 ac_nf0
 rw [et]
 cases d with
 | tup ds=>
  obtain ⟨kd,hb⟩:=g ds rfl
  simp only [isT]
  ac_nf0
  rw [zrx]
  ac_nf0
  match ds,kd,hb with
  | [],_,_=>
   rw [show ((([]:List D).length:Int)==2)=false from rfl]
   ac_nf0
   rfl
  | [x],_,_=>
   rw [show (([x].length:Int)==2)=false from rfl]
   ac_nf0
   cases x<;>rfl
  | x::y::z::r,_,_=>
   rw [show (((x::y::z::r).length:Int)==2)=false by rw [beq_eq_false_iff_ne];simp;omega]
   ac_nf0
   cases x<;>cases y<;>rfl
  | [x,y],kd,hb=>
   have kx:=kd x (by simp)
   have ky:=kd y (by simp)
   rw [show (([x,y].length:Int)==2)=true from rfl]
   ac_nf0
   rw [zgD kx]
   cases x with
   | int a=>
    simp only [isI]
    ac_nf0
    rw [zgD ky]
    cases y with
    | int b=>
     simp only [isI]
     ac_nf0
     have hbb:=hb a b rfl
     by_cases h0:0<b
     ·rw [decide_eq_true h0]
      ac_nf0
      have ef:=zhq (a:=a) (b:=b.toNat) (by omega) hbb
      rw [show ((b.toNat:Nat):Int)=b by omega] at ef
      rw [ef]
      ac_nf0
      have eq:=zrU [(mkRat a b.toNat).num,((mkRat a b.toNat).den:Int)] [a,b]
      rw [show tI [(mkRat a b.toNat).num,((mkRat a b.toNat).den:Int)]=qD (mkRat a b.toNat) from rfl,show tI [a,b]= .tup [.int a,.int b] from rfl] at eq
      rw [eq]
      ac_nf0
      congr 2
      rw [Bool.eq_iff_iff,beq_iff_eq]
      constructor
      ·intro e
       simp only [List.cons.injEq,and_true] at e
       unfold pF
       rw [qaG,qaD,beq_iff_eq]
       refine ⟨h0,?_⟩
       have hr:=(mkRat a b.toNat).reduced
       have e2:(mkRat a b.toNat).den=b.toNat:=by omega
       rw [e.1,e2] at hr
       exact hr
      ·intro h
       obtain ⟨_,e1,e2⟩:=znx h
       rw [e1,e2]
     ·rw [decide_eq_false h0]
      ac_nf0
      show (pure (D.bl false):M D)=pure (.bl (decide (0<b) && (Nat.gcd a.natAbs b.toNat==1)))
      rw [decide_eq_false h0]
      rfl
    | _=>simp only [isI];ac_nf0;rfl
   | _=>simp only [isI];ac_nf0;cases y<;>rfl
 | _=>simp only [isT];ac_nf0;rfl
noncomputable def qs (rs:List Rat):Rat:=rs.foldl (· + ·) 0
theorem zui:mkRat 0 1=0:=by decide +kernel
theorem zjv {s0:Option D}: ∀ (rs:List (Int×Nat)) (A:Int) (B k:Nat) (x3:Option D),Sz A B k rs-> ∃ y3,za1 (fun x sd=>zcc (List.set sd 3 (some x))) (rs.map pD) [s0,some (.int (mkRat A B).num),some (.int ((mkRat A B).den:Int)),x3]=pure (.nx [s0,some (.int ((rs.map rq).foldl (· + ·) (mkRat A B)).num),some (.int (((rs.map rq).foldl (· + ·) (mkRat A B)).den:Int)),y3])
 | [],A,B,k,x3,z=>⟨x3,rfl⟩
 | r::rs,A,B,k,x3,z=>by
  obtain ⟨y3,ih⟩:=zjv (s0:=s0) rs _ _ _ (some (pD r)) z.next
  refine ⟨y3,?_⟩
  have hr0:=z.p0 r qau
  have hA:=qaS (zhR A z.b0) z.A_le
  have hd:=ziw A z.b0
  have hB:=qaS hd z.B_le
  obtain ⟨d1,d2⟩:=z.d_le
  have hn:=z.r1 r qau
  have hdp:=(mkRat A B).den_pos
  have hbb:(mkRat A B).den*r.2<bb:=Nat.lt_of_le_of_lt (qaS (Nat.mul_le_mul_right _ hd) d1) (qaw (Nat.pow_lt_pow_right (by decide) (by decide:2000<2001)) (zko (by decide)))
  have ef:=zhq (a:=(mkRat A B).num*(r.2:Int)+r.1*((mkRat A B).den:Int)) (b:=(mkRat A B).den*r.2) (Nat.mul_pos hdp hr0) hbb
  have er:mkRat ((mkRat A B).num*(r.2:Int)+r.1*((mkRat A B).den:Int)) ((mkRat A B).den*r.2)=mkRat (A*(r.2:Int)+r.1*(B:Int)) (B*r.2):=by
   rw [<- zem hdp hr0,Rat.mkRat_self,zem z.b0 hr0]
  rw [er,Int.natCast_mul] at ef
  have e2:((r::rs).map rq).foldl (· + ·) (mkRat A B)=(rs.map rq).foldl (· + ·) (mkRat (A*(r.2:Int)+r.1*(B:Int)) (B*r.2)):=by
   rw [qaM,List.foldl_cons,zem z.b0 hr0]
  rw [e2,qaM (f:=pD),zcj, <-ih]
  generalize za1 (fun x sd=>zcc (List.set sd 3 (some x))) (rs.map pD)=rest
  generalize mkRat (A*(r.2:Int)+r.1*(B:Int)) (B*r.2)=q at ef
  generalize mkRat A B=p at hA hB ef
  simp only [zcc]
  unfold qD at ef
  unfold pD
  ac_nf0
  rw [zmC (zbe (by decide) hA) (by rw [Int.natAbs_natCast];exact zbe (by decide) d2),zmC (zbe (n:=1800) (by decide) hn) (by rw [Int.natAbs_natCast];exact zbe (by decide) hB)]
  ac_nf0
  rw [zmC (by rw [Int.natAbs_natCast];exact zbe (by decide) hB) (by rw [Int.natAbs_natCast];exact zbe (by decide) d2)]
  ac_nf0
  rw [ef]
  ac_nf0
structure Pz (ps:List (Int×Nat)):Prop where
 dp1:dpp ps<=2^2000
 ln:ps.length<=14
 r1: ∀ r∈ps,r.1.natAbs<=tt
 p0: ∀ r∈ps,0<r.2
theorem Pz.sz {ps:List (Int×Nat)} (z:Pz ps):Sz 0 1 0 ps:=⟨by decide,by rw [Nat.one_mul];exact z.dp1,by simp,by rw [Nat.zero_add];exact z.ln,z.r1,z.p0⟩
theorem zrc {ps:List (Int×Nat)} (z:Pz ps) {d:D} (hd:zdx d=pure (ps.map pD)):F_37 [d]=pure (qD (qs (ps.map rq))):=by
 obtain ⟨y3,e⟩:=zjv (s0:=some d) ps 0 1 0 none z.sz
 rw [zui] at e
 rw [show (0:Rat).num=0 from rfl,show (0:Rat).den=1 from rfl] at e
 rw [d_37]
 simp only [G_37]
 unfold qs
 ac_nf0
 rw [hd]
 ac_nf0
 rw [show D.int ((1:Nat):Int)= .int 1 from rfl] at e
 rw [e]
 ac_nf0
 rfl
structure Rz (rs:List Rat):Prop where
 dp1:dp rs<=2^2000
 ln:rs.length<=14
 r1: ∀ r∈rs,r.num.natAbs<=2^1700
theorem Rz.pz {rs:List Rat} (z:Rz rs):Pz (rs.map nd):=⟨by rw [zkz];exact z.dp1,by rw [qaH];exact z.ln,fun p hp=>by
  obtain ⟨r,hr,rfl⟩:=qaU.mp hp
  exact qaS (z.r1 r hr) (Nat.pow_le_pow_right (by decide) (by decide)),fun p hp=>by
  obtain ⟨r,hr,rfl⟩:=qaU.mp hp
  exact r.den_pos⟩
theorem zhC {rs:List Rat} (z:Rz rs) {d:D} (hd:zdx d=pure (rs.map qD)):F_37 [d]=pure (qD (qs rs)):=by
 have:=zrc z.pz (d:=d) (by rw [zpN];exact hd)
 rw [zox] at this
 exact this
theorem qsP {ps:List (Int×Nat)} (z:Pz ps):(qs (ps.map rq)).num.natAbs<2^6000/\(qs (ps.map rq)).den<2^6000:=by
 have key: ∀ (ps:List (Int×Nat)) (A:Int) (B k:Nat),Sz A B k ps-> ∃ (A':Int) (B':Nat) (k':Nat),Sz A' B' k' []/\mkRat A' B'=(ps.map rq).foldl (· + ·) (mkRat A B):=by
  intro ps
  induction ps with
  | nil=>exact fun A B k z=>⟨A,B,k,z,rfl⟩
  | cons r ps ih=>
   intro A B k z
   obtain ⟨A',B',k',z',e⟩:=ih _ _ _ z.next
   exact ⟨A',B',k',z',by rw [e,qaM,List.foldl_cons,zem z.b0 (z.p0 r qau)]⟩
 obtain ⟨A',B',k',z',e⟩:=key ps 0 1 0 z.sz
 rw [zui] at e
 unfold qs
 rw [<- e]
 exact ⟨zbe (n:=3804) (by decide) (qaS (zhR A' z'.b0) z'.A_le),zbe (n:=2000) (by decide) (qaS (ziw A' z'.b0) z'.B_le)⟩
theorem zp1 {rs:List Rat} (z:Rz rs):(qs rs).num.natAbs<2^6000/\(qs rs).den<2^6000:=by
 have:=qsP z.pz
 rw [zox] at this
 exact this
theorem znz {a b:List Rat} (h:a.Sublist b):dp a<=dp b:=by
 induction h with
 | slnil=>exact qaV _
 | @cons l1 l2 r _ ih=>
  have h1:1*dp l2<=r.den*dp l2:=Nat.mul_le_mul_right _ r.den_pos
  show dp l1<=r.den*dp l2
  omega
 | @cons_cons l1 l2 r _ ih=>exact Nat.mul_le_mul_left _ ih
noncomputable def pk (rs:List Rat) (ts:List Int):List Rat:=ts.map fun t=>rs.getD t.toNat 0
theorem zsd {rs:List Rat} {ts:List Int} (hu:ts.Pairwise (· < ·)) (hb: ∀ t∈ts,0<=t/\t<(rs.length:Int)):(pk rs ts).Sublist rs:=by
 have e:ts=((List.range rs.length).filter fun (k:Nat)=>ts.any (· == (k:Int))).map fun (k:Nat)=>(k:Int):=by
  refine zrA hu ?_ fun t=> ?_
  ·rw [List.pairwise_map]
   exact (List.pairwise_lt_range.filter _).imp fun h=>by omega
  ·rw [qaU]
   constructor
   ·intro ht
    have:=hb t ht
    refine ⟨t.toNat,List.mem_filter.mpr ⟨List.mem_range.mpr (by omega),?_⟩,by omega⟩
    rw [show ((t.toNat:Nat):Int)=t by omega]
    exact zei.mpr ht
   ·rintro ⟨k,hk,rfl⟩
    exact zei.mp (List.mem_filter.mp hk).2
 have e2:rs=(List.range rs.length).map fun k=>rs.getD k 0:=by
  refine List.ext_getElem (by simp) fun i h1 h2=> ?_
  simp [List.getD,h1]
 unfold pk
 rw [e,qaT]
 conv=>rhs;rw [e2]
 exact (List.filter_sublist.map _)
theorem Rz.sub {rs xs:List Rat} (z:Rz rs) (h:xs.Sublist rs):Rz xs:=⟨qaS (znz h) z.dp1,qaS h.length_le z.ln,fun r hr=>z.r1 r (h.subset hr)⟩
theorem Rz.pick {rs:List Rat} (z:Rz rs) {ts:List Int} (hu:ts.Pairwise (· < ·)) (hb: ∀ t∈ts,0<=t/\t<(rs.length:Int)):Rz (pk rs ts):=z.sub (zsd hu hb)
noncomputable def bB (rs:List Rat) (o:List Int×Int):Bool:= !decide (o.2*((qs (pk rs o.1)).den:Int)<(qs (pk rs o.1)).num)
theorem zuT {rs:List Rat} {t:Int} (h0:0<=t) (h1:t<(rs.length:Int)):atI (rs.map qD) t=some (qD (rs.getD t.toNat 0)):=by
 have hl:t.toNat<rs.length:=by omega
 have:=zfw (xs:=rs.map qD) (j:=t.toNat) (v:=qD (rs.getD t.toNat 0)) (by simp [List.getD,hl])
 rw [<- this]
 congr 1
 omega
theorem zoA {fi:FA} {src:List (Option Nat)} {sd:Sd} {te:FE} {rs:List Rat} {ts:List Int} (he:te=cOp dIx (zaf 1) (zaf 0)) (hl:ts.length<=1000) (hb: ∀ t∈ts,0<=t/\t<(rs.length:Int)) (hi:fi sd=pure (ts.map D.int)) (eb:zak src sd=[none,some (.tup (rs.map qD))]):
  zaK fi (zaG 0) (fun _=>pure true) te src sd=pure (.lst ((pk rs ts).map qD)):=by
 unfold pk
 rw [qaT,show ts.map (qD∘fun t=>rs.getD t.toNat 0)=ts.filterMap fun t=>some (qD (rs.getD t.toNat 0)) by simp [Function.comp_def]]
 refine zbx (g':=D.int) hi hl fun t ht=> ?_
 rw [eb,he]
 simp only [zbc]
 ac_nf0
 rw [zuT (hb t ht).1 (hb t ht).2]
 ac_nf0
theorem zmH {f g:FE} {sd:Sd}:znO (zac f (zac g zav)) sd=(do let x<-f sd;let y<-g sd;zsy [x,y]):=by
 unfold znO
 simp only [zaI,za2,bind_assoc,pure_bind]
theorem zmQ {ds es:List D}:zsy [.tup ds,.tup es]=pure (zf5 ds es):=rfl
noncomputable def zR (p:(List Int×Int)×Rat):D:= .tup [qD p.2,zb8 p.1]
theorem zoD: ∀ (os:List (List Int×Int)) (rs:List Rat),zf5 (rs.map qD) (os.map zb8)=(os.zip rs).map zR
 | [],rs=>by cases rs<;>rfl
 | _::_,[]=>rfl
 | o::os,r::rs=>by
  have:=zoD os rs
  unfold zf5 at this ⊢
  rw [qaM,qaM,List.zip_cons_cons,qaM,this]
  rfl
noncomputable def sl (t:Int) (os:List (List Int×Int)) (rs:List Rat):List Rat:=((os.zip rs).filter fun p=>p.1.1.any (· == t)).map (·.2)
theorem zpU (t:Int) {os:List (List Int×Int)} {rs:List Rat} (h:rs.length=os.length):(sl t os rs).Sublist rs:=by
 unfold sl
 have e:(os.zip rs).map (·.2)=rs:=List.map_snd_zip (by omega)
 conv=>rhs;rw [<- e]
 exact List.filter_sublist.map _
noncomputable def sB (os:List (List Int×Int)) (rs:List Rat) (t:Int):Bool:= !decide ((qs (sl t os rs)).num<((qs (sl t os rs)).den:Int))
theorem zlG {fi:FA} {src:List (Option Nat)} {sd:Sd} {os:List (List Int×Int)} {rs:List Rat} {t:Int} (hl:os.length<=1000) (hi:fi sd=pure ((os.zip rs).map zR)) (eb:zak src sd=[none,none,some (.int t)]):
  zaK fi (zbp 2 (zar (zaG 0) (zar (zaG 1) zbq))) za8 za6 src sd=pure (.lst ((sl t os rs).map qD)):=by
 have e:(sl t os rs).map qD=(os.zip rs).filterMap fun p=>if p.1.1.any (· == t)=true then some (qD p.2) else none:=by
  rw [zd8 (p:=fun p:(List Int×Int)×Rat=>p.1.1.any (· == t)) (g:=fun p=>qD p.2)]
  unfold sl
  rw [qaT]
  rfl
 rw [e]
 refine zbx (g':=zR) hi (by rw [List.length_zip];omega) fun p hp=> ?_
 rw [eb]
 simp only [zbc,za8,za6]
 unfold zR
 generalize qD p.2=q
 cases h:p.1.1.any (· == t) with
 | true=>
  ac_nf0
  rw [zds,h]
  ac_nf0
 | false=>
  ac_nf0
  rw [zds,h]
  ac_nf0
structure Oz (n:Nat) (o:List Int×Int):Prop where
 up:o.1.Pairwise (· < ·)
 bd: ∀ t∈o.1,0<=t/\t<(n:Int)
 ln:o.1.length<=12
 pp:o.2.natAbs<2^6000
theorem zjI {rs:List Rat} (z:Rz rs) {s0:Option D}: ∀ (os:List (List Int×Int)) (x2 x3 x4 x5:Option D),(∀ o∈os,Oz rs.length o)->
  (os.all (bB rs)=true-> ∃ sd,za1 (fun x sd=>do let sd1<-zbp 2 (zar (zaG 2) (zar (zaG 3) zbq)) x sd;zaQ sd1) (os.map zb8) [s0,some (.tup (rs.map qD)),x2,x3,x4,x5]=pure (.nx sd))/\
  (os.all (bB rs)=false->za1 (fun x sd=>do let sd1<-zbp 2 (zar (zaG 2) (zar (zaG 3) zbq)) x sd;zaQ sd1) (os.map zb8) [s0,some (.tup (rs.map qD)),x2,x3,x4,x5]=pure (.rt (.bl false)))
 | [],x2,x3,x4,x5,_=>⟨fun _=>⟨_,rfl⟩,fun h=>by cases h⟩
 | o::r,x2,x3,x4,x5,ho=>by
  have g:=ho o qau
  have zp:=z.pick g.up g.bd
  obtain ⟨n1,n2⟩:=zp1 zp
  have ih:=zjI z (s0:=s0) r (some (.tup (o.1.map D.int))) (some (.int o.2)) (some (.int (qs (pk rs o.1)).num)) (some (.int ((qs (pk rs o.1)).den:Int))) fun y hy=>ho y (qan _ hy)
  have es:=zhC zp (d:= .lst ((pk rs o.1).map qD)) rfl
  have ec: ∀ {s4 s5:Option D},zaK (iSq (zaf 2)) (zaG 0) (fun _=>pure true) zbX [none,some 1] [s0,some (.tup (rs.map qD)),some (.tup (o.1.map D.int)),some (.int o.2),s4,s5]=pure (.lst ((pk rs o.1).map qD)):=fun {s4 s5}=>zoA rfl (by have:=g.ln;omega) g.bd (by ac_nf0) rfl
  have eb:bB rs o= !decide (o.2*((qs (pk rs o.1)).den:Int)<(qs (pk rs o.1)).num):=rfl
  rw [List.all_cons,qaM,zcj,eb]
  have hm:=zmC g.pp (b:=((qs (pk rs o.1)).den:Int)) (by rw [Int.natAbs_natCast];exact n2)
  generalize za1 (fun x sd=>do let sd1<-zbp 2 (zar (zaG 2) (zar (zaG 3) zbq)) x sd;zaQ sd1) (r.map zb8)=rest at ih ⊢
  generalize (pk rs o.1).map qD=ps at es ec
  generalize qs (pk rs o.1)=q at es hm ih ⊢
  unfold qD at es
  simp only [zaQ]
  by_cases hc:o.2*(q.den:Int)<q.num
  ·rw [decide_eq_true hc]
   refine ⟨fun h=>(by cases h),fun _=> ?_⟩
   ac_nf0
   rw [ec]
   ac_nf0
   rw [es]
   ac_nf0
   rw [hm]
   ac_nf0
   rw [decide_eq_true hc]
   ac_nf0
  ·rw [decide_eq_false hc,Bool.not_false,Bool.true_and]
   ac_nf0
   rw [ec]
   ac_nf0
   rw [es]
   ac_nf0
   rw [hm]
   ac_nf0
   rw [decide_eq_false hc]
   ac_nf0
   exact ih
theorem zjh {rs:List Rat} (z:Rz rs) (hl:rs.length=os.length) (hl2:os.length<=1000): ∀ (ts:List Int) (x2 x3 x4:Option D),
  (ts.all (sB os rs)=true-> ∃ sd,za1 (fun x sd=>zaR (List.set sd 2 (some x))) (ts.map D.int) [some (zca m os),some (.tup (rs.map qD)),x2,x3,x4]=pure (.nx sd))/\
  (ts.all (sB os rs)=false->za1 (fun x sd=>zaR (List.set sd 2 (some x))) (ts.map D.int) [some (zca m os),some (.tup (rs.map qD)),x2,x3,x4]=pure (.rt (.bl false)))
 | [],x2,x3,x4=>⟨fun _=>⟨_,rfl⟩,fun h=>by cases h⟩
 | t::r,x2,x3,x4=>by
  have zp:=z.sub (zpU t hl)
  have ih:=zjh z hl hl2 r (some (.int t)) (some (.int (qs (sl t os rs)).num)) (some (.int ((qs (sl t os rs)).den:Int)))
  have es:=zhC zp (d:= .lst ((sl t os rs).map qD)) rfl
  have ec: ∀ {s3 s4:Option D},zaK (znO (zac (zaf 1) (zac (cOp dIx (zaf 0) (cK (.int 1))) zav))) (zbp 2 (zar (zaG 0) (zar (zaG 1) zbq))) za8 za6 [none,none,some 2] [some (zca m os),some (.tup (rs.map qD)),some (.int t),s3,s4]=pure (.lst ((sl t os rs).map qD)):=fun {s3 s4}=>zlG hl2 (by rw [zmH];ac_nf0;rw [zlM];ac_nf0;rw [zmQ,zoD]) rfl
  have eb:sB os rs t= !decide ((qs (sl t os rs)).num<((qs (sl t os rs)).den:Int)):=rfl
  rw [List.all_cons,qaM,zcj,eb]
  generalize za1 (fun x sd=>zaR (List.set sd 2 (some x))) (r.map D.int)=rest at ih ⊢
  generalize (sl t os rs).map qD=ps at es ec
  generalize qs (sl t os rs)=q at es ih ⊢
  unfold qD at es
  simp only [zaR]
  by_cases hc:q.num<(q.den:Int)
  ·rw [decide_eq_true hc]
   refine ⟨fun h=>(by cases h),fun _=> ?_⟩
   ac_nf0
   rw [ec]
   ac_nf0
   rw [es]
   ac_nf0
   simp only [zpH]
   ac_nf0
   rw [decide_eq_true hc]
   ac_nf0
  ·rw [decide_eq_false hc,Bool.not_false,Bool.true_and]
   ac_nf0
   rw [ec]
   ac_nf0
   rw [es]
   ac_nf0
   simp only [zpH]
   ac_nf0
   rw [decide_eq_false hc]
   ac_nf0
   exact ih
noncomputable def zdQ:D->Rat
 | .tup [.int a,.int b]=>mkRat a b.toNat
 | _=>0
theorem zsk {d:D} (h:pS d=true): ∃ a b:Int,d= .tup [.int a,.int b]/\pF d=true/\0<=a/\d=qD (zdQ d):=by
 unfold pS at h
 split at h
 ·rename_i a b
  rw [qaG,qaD] at h
  exact ⟨a,b,rfl,h.1,h.2,(znx h.1).1⟩
 ·cases h
theorem zmY {d:D} (h:pF d=true): ∃ a b:Int,d= .tup [.int a,.int b]:=by
 unfold pF at h
 split at h
 ·exact ⟨_,_,rfl⟩
 ·cases h
theorem zp9 {d:D} (h:pF d=false):pS d=false:=by
 unfold pS
 split
 ·rename_i a b
  have h:(decide (0<b) && (Nat.gcd a.natAbs b.toNat==1))=false:=h
  rw [h]
  rfl
 ·rfl
theorem zoS {a b:Int} (h:pF (.tup [.int a,.int b])=true):pS (.tup [.int a,.int b])=decide (0<=a):=by
 have h:(decide (0<b) && (Nat.gcd a.natAbs b.toNat==1))=true:=h
 show (decide (0<b) && (Nat.gcd a.natAbs b.toNat==1) && decide (0<=a))=_
 rw [h,Bool.true_and]
theorem zfT: ∀ {ds:List D},ds.all pS=true->ds=(ds.map zdQ).map qD
 | [],_=>rfl
 | d::r,h=>by
  rw [List.all_cons,qaG] at h
  obtain ⟨_,_,_,_,_,e⟩:=zsk h.1
  rw [qaM,qaM, <-e, <-zfT h.2]
def gt (d:D):Prop:=kn d=true/\ ∀ ds,d= .tup ds->ds.length<=60/\(∀ x∈ds,sv x)/\(ds.all pS=true->Rz (ds.map zdQ))
noncomputable def zoE (m:Int) (os:List (List Int×Int)):D->Bool
 | .tup ds=>((ds.length:Int)==m) && ds.all pS && os.all (bB (ds.map zdQ))
 | _=>false
noncomputable def tsI (m:Int):List Int:=(List.range m.toNat).map fun (k:Nat)=>(k:Int)
theorem zsp (m:Int):zd6 0 m.toNat=(tsI m).map D.int:=by
 unfold zd6 tsI
 rw [qaT]
 exact List.map_congr_left fun k _=>by simp
noncomputable def ztN (m:Int) (os:List (List Int×Int)):D->Bool
 | .tup ds=>((ds.length:Int)==(os.length:Int)) && ds.all pS && (tsI m).all (sB os (ds.map zdQ))
 | _=>false
theorem zkd {d:D} (g:sv d):(za4 [some d]:M D)=pure (.bl (pS d)):=by
 have ef:=zgL g
 simp only [za4]
 ac_nf0
 rw [ef]
 ac_nf0
 cases hp:pF d with
 | false=>
  rw [zp9 hp]
  ac_nf0
 | true=>
  obtain ⟨a,b,rfl⟩:=zmY hp
  rw [zoS hp]
  ac_nf0
  rw [zuc]
theorem zeU {fi:FA} {sd:Sd} {te:FE} {ds:List D} (hi:fi sd=pure ds) (hl:ds.length<=60) (he: ∀ x∈ds,te [some x]=pure (.bl (pS x))):zaK fi (zaG 0) (fun _=>pure true) te [none] sd=pure (.lst ((ds.map pS).map D.bl)):=by
 rw [zgc (ds:=ds) (k:=fun d=> .bl (pS d)) hi (by omega) ?_]
 ·rw [qaT]
  rfl
 ·intro x hx
  rw [show zak [none] sd=[none] from rfl]
  simp only [zbc]
  ac_nf0
  rw [he x hx]
  ac_nf0
theorem all_map (ds:List D):((ds.map pS).all id)=ds.all pS:=by
 rw [List.all_map]
 rfl
theorem zmb (s:Stk m os) (hp: ∀ o∈os,o.2<2^64) {d:D} (g:gt d):F_38 [zca m os,d]=pure (.bl (zoE m os d)):=by
 obtain ⟨k,g⟩:=g
 have et:=ziq k
 rw [d_38]
 simp only [G_38]
 ac_nf0
 rw [et]
 cases d with
 | tup ds=>
  obtain ⟨hl,hs,hz⟩:=g ds rfl
  simp only [isT]
  ac_nf0
  rw [zoo]
  ac_nf0
  rw [zrx]
  unfold zoE
  cases hm:((ds.length:Int)==m) with
  | false=>
   ac_nf0
   simp [hm]
  | true=>
   rw [beq_iff_eq] at hm
   have ec: ∀ {s2 s3 s4 s5:Option D},zaK (iSq (zaf 1)) (zaG 0) (fun _=>pure true) za4 [none] [some (zca m os),some (.tup ds),s2,s3,s4,s5]=pure (.lst ((ds.map pS).map D.bl)):=fun {s2 s3 s4 s5}=>zeU (by ac_nf0) hl fun x hx=>zkd (hs x hx)
   ac_nf0
   rw [ec]
   ac_nf0
   rw [zk4,all_map]
   ac_nf0
   cases ha:ds.all pS with
   | false=>
    ac_nf0
    simp
   | true=>
    have z:=hz ha
    have e:=zfT ha
    have hlen:(ds.map zdQ).length=ds.length:=qaH _
    have lb:=zjI z (s0:=some (zca m os)) os none none none none fun o ho=>⟨s.up o ho,fun t ht=>by have:=s.bd o ho t ht;omega,by have:=s.olen o ho;omega,by
      have h1:=s.pos o ho
      have h2:=hp o ho
      have h3:o.2.natAbs<=2^64:=by omega
      exact zbe (n:=64) (by decide) h3⟩
    generalize ds.map zdQ=rs at z e lb hlen
    subst e
    ac_nf0
    rw [zlM]
    ac_nf0
    cases hb:os.all (bB rs) with
    | true=>
     obtain ⟨sd,el⟩:=lb.1 hb
     rw [el]
     ac_nf0
     rw [qaH] at hm
     simp [hm]
    | false=>
     rw [lb.2 hb]
     ac_nf0
     simp
 | _=>simp only [isT];ac_nf0;rfl
theorem zkh {d:D} (g:sv d):(za5 [some d]:M D)=pure (.bl (pS d)):=by
 have ef:=zgL g
 simp only [za5]
 ac_nf0
 rw [ef]
 ac_nf0
 cases hp:pF d with
 | false=>
  rw [zp9 hp]
  ac_nf0
 | true=>
  obtain ⟨a,b,rfl⟩:=zmY hp
  rw [zoS hp]
  ac_nf0
  rw [zuc]
theorem znB (s:Stk m os) {d:D} (g:gt d):F_39 [zca m os,d]=pure (.bl (ztN m os d)):=by
 obtain ⟨k,g⟩:=g
 have et:=ziq k
 have ol:=s.len
 have m0:=s.m0
 have m1:=s.m1
 rw [d_39]
 simp only [G_39]
 ac_nf0
 rw [et]
 cases d with
 | tup ds=>
  obtain ⟨hl,hs,hz⟩:=g ds rfl
  simp only [isT]
  ac_nf0
  rw [zlM]
  ac_nf0
  rw [zrx]
  unfold ztN
  cases hm:((ds.length:Int)==(os.length:Int)) with
  | false=>
   ac_nf0
   simp [hm]
  | true=>
   rw [beq_iff_eq] at hm
   have ec: ∀ {s2 s3 s4:Option D},zaK (iSq (zaf 1)) (zaG 0) (fun _=>pure true) za5 [none] [some (zca m os),some (.tup ds),s2,s3,s4]=pure (.lst ((ds.map pS).map D.bl)):=fun {s2 s3 s4}=>zeU (by ac_nf0) hl fun x hx=>zkh (hs x hx)
   ac_nf0
   rw [ec]
   ac_nf0
   rw [zk4,all_map]
   ac_nf0
   cases ha:ds.all pS with
   | false=>
    ac_nf0
    simp
   | true=>
    have z:=hz ha
    have e:=zfT ha
    have hlen:(ds.map zdQ).length=ds.length:=qaH _
    have lb:=zjh (m:=m) (os:=os) z (by omega) (by omega) (tsI m) none none none
    generalize ds.map zdQ=rs at z e lb hlen
    subst e
    ac_nf0
    rw [zoo]
    ac_nf0
    rw [zdg (by omega) (by omega),zsp]
    ac_nf0
    cases hb:(tsI m).all (sB os rs) with
    | true=>
     obtain ⟨sd,el⟩:=lb.1 hb
     rw [el]
     ac_nf0
     rw [qaH] at hm
     simp [hm]
    | false=>
     rw [lb.2 hb]
     ac_nf0
     simp
 | _=>simp only [isT];ac_nf0;rfl
theorem zuO {q:Rat} (h:q.den<2^6000):sv (qD q):=⟨rfl,fun ds e=>by
  unfold qD at e
  cases e
  refine ⟨fun x hx=> ?_,fun a b e=> ?_⟩
  · simp only [qaP,qaF,or_false] at hx
    rcases hx with rfl | rfl<;>rfl
  · simp only [List.cons.injEq,D.int.injEq,and_true] at e
    rw [<- e.2,qaB]
    exact qaw h (zko (by decide))⟩
theorem zph (r:Rat):zdQ (qD r)=r:=by
 show mkRat r.num ((r.den:Int).toNat)=r
 rw [qaB,Rat.mkRat_self]
theorem zla (rs:List Rat):(rs.map qD).map zdQ=rs:=by
 rw [qaT]
 conv=>rhs;rw [<- List.map_id rs]
 exact List.map_congr_left fun r _=>zph r
theorem zso {rs:List Rat} (hl:rs.length<=14) (hd:dp rs<=2^1800) (hn: ∀ r∈rs,r.num.natAbs<=2^1606/\r.den<=2^1800):gt (.tup (rs.map qD)):=⟨rfl,fun ds e=>by
  cases e
  refine ⟨by rw [qaH];omega,fun x hx=> ?_,fun _=> ?_⟩
  · obtain ⟨r,hr,rfl⟩:=qaU.mp hx
    exact zuO (zbe (n:=1800) (by decide) (hn r hr).2)
  · rw [zla]
    exact ⟨qaS hd (Nat.pow_le_pow_right (by decide) (by decide)),hl,fun r hr=>qaS (hn r hr).1 (Nat.pow_le_pow_right (by decide) (by decide))⟩⟩
noncomputable def pr (os:List (List Int×Int)) (rs:List Rat):List (Int×Nat):=(os.zip rs).map fun p=>(p.1.2*p.2.num,p.2.den)
theorem zr5: ∀ ps:List (Int×Nat),(∀ p∈ps,0<p.2)->dp (ps.map rq)<=dpp ps
 | [],_=>qaV _
 | p::ps,h=>Nat.mul_le_mul (ziw p.1 (h p qau)) (zr5 ps fun q hq=>h q (qan _ hq))
theorem znb: ∀ (os:List (List Int×Int)) (rs:List Rat),dpp (pr os rs)<=dp rs
 | [],rs=>zm3 rs
 | _::_,[]=>qaV _
 | o::os,r::rs=>Nat.mul_le_mul_left _ (znb os rs)
theorem zng {os:List (List Int×Int)} {rs:List Rat} (z:Rz rs) (hp: ∀ o∈os,o.2.natAbs<=2^64): ∀ p∈os.zip rs,p.1.2.natAbs<2^6000/\p.2.num.natAbs<2^6000/\(p.1.2*p.2.num).natAbs<=tt/\p.2.den<bb:=fun p h=>by
 obtain ⟨h1,h2⟩:=List.of_mem_zip (a:=p.1) (b:=p.2) h
 have a1:=hp _ h1
 have a2:=z.r1 _ h2
 refine ⟨zbe (n:=64) (by decide) a1,zbe (n:=1700) (by decide) a2,?_,?_⟩
 ·rw [Int.natAbs_mul]
  have h3:=zkM a1 a2
  exact qaS h3 (Nat.pow_le_pow_right (by decide) (by decide))
 ·have h3:p.2.den<=dp rs:=by
   have:=znz (List.singleton_sublist.mpr h2)
   have e:dp [p.2]=p.2.den:=Nat.mul_one _
   omega
  exact Nat.lt_of_le_of_lt (qaS h3 z.dp1) (qaw (Nat.pow_lt_pow_right (by decide) (by decide:2000<2001)) (zko (by decide)))
theorem ztc {os:List (List Int×Int)} {rs:List Rat} (z:Rz rs) (hp: ∀ o∈os,o.2.natAbs<=2^64):Pz (pr os rs) where
 dp1:=qaS (znb os rs) z.dp1
 ln:=by
  have:=z.ln
  unfold pr
  rw [qaH,List.length_zip]
  omega
 r1:=fun r hr=>by
  obtain ⟨p,h,rfl⟩:=qaU.mp hr
  exact (zng z hp p h).2.2.1
 p0:=fun r hr=>by
  obtain ⟨p,h,rfl⟩:=qaU.mp hr
  exact p.2.den_pos
theorem zuM {os:List (List Int×Int)} {rs:List Rat} (z:Rz rs) (hp: ∀ o∈os,o.2.natAbs<=2^64):Pz (((pr os rs).map rq).map nd) where
 dp1:=by
  have zp:=ztc z hp
  rw [zkz]
  exact qaS (zr5 _ zp.p0) zp.dp1
 ln:=by
  rw [qaH,qaH]
  exact (ztc z hp).ln
 r1:=fun r hr=>by
  obtain ⟨q,h,rfl⟩:=qaU.mp hr
  obtain ⟨p,h',rfl⟩:=qaU.mp h
  have zp:=ztc z hp
  exact qaS (zhR p.1 (zp.p0 p h')) (zp.r1 p h')
 p0:=fun r hr=>by
  obtain ⟨q,h,rfl⟩:=qaU.mp hr
  exact q.den_pos
theorem znL {fi:FA} {sd:Sd} {os:List (List Int×Int)} {rs:List Rat} (z:Rz rs) (hp: ∀ o∈os,o.2.natAbs<=2^64) (hl:os.length<=1000) (hi:fi sd=pure ((os.zip rs).map zR)) (eb:zak [none,none] sd=[none,none]):
  zaK fi (zbp 2 (zar (zaG 0) (zar (zaG 1) zbq))) (fun _=>pure true) zhi [none,none] sd=pure (.lst (((pr os rs).map rq).map qD)):=by
 have e:((pr os rs).map rq).map qD=(os.zip rs).filterMap fun p=>some (qD (mkRat (p.2.num*p.1.2) p.2.den)):=by
  unfold pr
  rw [qaT,qaT]
  simp only [Function.comp_def,List.filterMap_eq_map']
  refine List.map_congr_left fun p _=> ?_
  unfold rq
  rw [Int.mul_comm]
 rw [e]
 refine zbx (g':=zR) hi (by rw [List.length_zip];omega) fun p hpp=> ?_
 obtain ⟨a1,a2,_,a4⟩:=zng z hp p hpp
 have em:=zmC a2 a1
 have ef:=zhq (a:=p.2.num*p.1.2) p.2.den_pos a4
 rw [eb]
 simp only [zbc,zhi]
 unfold zR
 generalize qD (mkRat (p.2.num*p.1.2) p.2.den)=q at ef
 unfold qD
 ac_nf0
 rw [em]
 ac_nf0
 rw [ef]
 ac_nf0
theorem zum {r:Rat} (h:0<=r):pS (qD r)=true:=by
 have h1:=zuR r
 unfold qD at h1 ⊢
 rw [zoS h1,qaD]
 exact Rat.num_nonneg.mpr h
noncomputable def zlg:Option Nat->D
 | some c=> .int (c:Int)
 | none=> .non
noncomputable def ent (n q:Nat) (T:Nat->Nat->Int):Option Nat:=(List.range q).find? fun x=>decide (T n x<0)
theorem zfc {n q:Nat} {T:Nat->Nat->Int} {s0:Option D}: ∀ (ks:List Nat) (x2:Option D),(∀ k∈ks,k<q+1)-> ∃ y2,za1 (fun x sd=>za7 (List.set sd 2 (some x))) (ks.map fun (k:Nat)=>D.int (k:Int)) [s0,some (zbM (q+1) (T n)),x2]
   = pure (match ks.find? fun x=>decide (T n x<0) with | some c=> .rt (.int (c:Int)) | none=> .nx [s0,some (zbM (q+1) (T n)),y2])
 | [],x2,_=>⟨x2,rfl⟩
 | k::ks,x2,h=>by
  obtain ⟨y2,ih⟩:=zfc (n:=n) (T:=T) (s0:=s0) ks (some (.int (k:Int))) fun j hj=>h j (qan _ hj)
  have ea:atI ((List.range (q+1)).map fun x=>D.int (T n x)) (k:Int)=some (.int (T n k)):=zeO (h k qau)
  refine ⟨y2,?_⟩
  rw [qaM,zcj]
  generalize za1 (fun x sd=>za7 (List.set sd 2 (some x))) (ks.map fun (k:Nat)=>D.int (k:Int))=rest at ih ⊢
  rw [List.find?_cons]
  simp only [za7]
  unfold zbM at ih ⊢
  ac_nf0
  rw [ea]
  ac_nf0
  rw [zpH]
  ac_nf0
  by_cases hn:T n k<0
  ·rw [decide_eq_true hn]
   ac_nf0
  ·rw [decide_eq_false hn]
   ac_nf0
   exact ih
theorem ziu {n q:Nat} {T:Nat->Nat->Int} (hq:q<=100):F_20 [zbl (n+1) (q+1) T]=pure (zlg (ent n q T)):=by
 obtain ⟨y2,e⟩:=zfc (n:=n) (q:=q) (T:=T) (s0:=some (zbl (n+1) (q+1) T)) (List.range q) none fun k hk=>by have:=List.mem_range.mp hk;omega
 have el:atI ((List.range (n+1)).map fun j=>zbM (q+1) (T j)) (-1)=some (zbM (q+1) (T n)):=zhO
 have en:zeW [zbM (q+1) (T n)]=pure (.int ((q+1:Nat):Int)):=by unfold zbM;rw [zkT,qaH,List.length_range]
 have er:(((q+1:Nat):Int) - 1)=(q:Int):=by omega
 rw [d_20]
 simp only [G_20]
 have ei:dIx (zbl (n+1) (q+1) T) (.int (-1))=pure (zbM (q+1) (T n)):=by unfold zbl;rw [zeP,el];rfl
 ac_nf0
 rw [ei]
 ac_nf0
 rw [en]
 ac_nf0
 rw [er,zhM (by omega)]
 ac_nf0
 rw [e]
 unfold ent
 generalize (List.range q).find? (fun x=>decide (T n x<0))=r
 cases r with
 | none=>ac_nf0;rfl
 | some c=>ac_nf0;rfl
noncomputable def ahd (bs:Nat->Nat) (T:Nat->Nat->Int) (q c k b:Nat):Bool:=decide (T k q*T b c<T b q*T k c) || (decide (T k q*T b c=T b q*T k c) && decide (bs k<bs b))
noncomputable def lvF (bs:Nat->Nat) (T:Nat->Nat->Int) (q c:Nat) (acc:Option Nat) (k:Nat):Option Nat:=if 0<T k c then (match acc with | none=>some k | some b=>if ahd bs T q c k b=true then some k else some b) else acc
def Sm (n q:Nat) (T:Nat->Nat->Int):Prop:= ∀ k,k<n+1-> ∀ x,x<q+1->(T k x).natAbs<2^6000
theorem ix2 {n q:Nat} {T:Nat->Nat->Int} {k x:Nat} (hk:k<n+1) (hx:x<q+1):dIx (zbl (n+1) (q+1) T) (.int (k:Int))=pure (zbM (q+1) (T k))/\dIx (zbM (q+1) (T k)) (.int (x:Int))=pure (.int (T k x))/\dIx (zbM (q+1) (T k)) (.int (-1))=pure (.int (T k q)):=by
 have e1:atI ((List.range (n+1)).map fun j=>zbM (q+1) (T j)) (k:Int)=some (zbM (q+1) (T k)):=zeO hk
 have e2:atI ((List.range (q+1)).map fun x=>D.int (T k x)) (x:Int)=some (.int (T k x)):=zeO hx
 have e3:atI ((List.range (q+1)).map fun x=>D.int (T k x)) (-1)=some (.int (T k q)):=zhO
 refine ⟨?_,?_,?_⟩
 ·unfold zbl;rw [zeP,e1];rfl
 ·unfold zbM;rw [zeP,e2];rfl
 ·unfold zbM;rw [zeP,e3];rfl
theorem zlJ {n q:Nat} {T:Nat->Nat->Int} {bs:Nat->Nat} (z:Sm n q T) {c k b a:Nat} (hc:c<q) (hk:k<n) (hb:b<n) {h:Hh} (e:h[a]? = some (.lst ((List.range n).map fun k=>D.int (bs k:Int)))) {P:D->Hh->Prop} (p:P (.bl (ahd bs T q c k b)) h):
  wp (F_22 [zbl (n+1) (q+1) T,.cel a,.int (c:Int),.int (k:Int),.int (b:Int)]) h P:=by
 obtain ⟨k1,k2,k3⟩:=ix2 (n:=n) (q:=q) (T:=T) (k:=k) (x:=c) (by omega) (by omega)
 obtain ⟨b1,b2,b3⟩:=ix2 (n:=n) (q:=q) (T:=T) (k:=b) (x:=c) (by omega) (by omega)
 have m1:=zmC (z k (by omega) q (by omega)) (z b (by omega) c (by omega))
 have m2:=zmC (z b (by omega) q (by omega)) (z k (by omega) c (by omega))
 have a1:atI ((List.range n).map fun k=>D.int (bs k:Int)) (k:Int)=some (.int (bs k:Int)):=zeO hk
 have a2:atI ((List.range n).map fun k=>D.int (bs k:Int)) (b:Int)=some (.int (bs b:Int)):=zeO hb
 rw [d_22]
 simp only [G_22]
 ac_nf0
 rw [k1]
 ac_nf0
 rw [k3]
 ac_nf0
 rw [b1]
 ac_nf0
 rw [b2]
 ac_nf0
 rw [m1]
 ac_nf0
 rw [b3]
 ac_nf0
 rw [k2]
 ac_nf0
 rw [m2]
 ac_nf0
 rw [zpH]
 ac_nf0
 unfold ahd at p
 by_cases h1:T k q*T b c<T b q*T k c
 ·rw [decide_eq_true h1] at p ⊢
  ac_nf0
  exact p
 ·rw [decide_eq_false h1] at p ⊢
  ac_nf0
  rw [zn6]
  ac_nf0
  by_cases h2:T k q*T b c=T b q*T k c
  ·rw [decide_eq_true h2] at p
   rw [show (T k q*T b c==T b q*T k c)=true from beq_iff_eq.mpr h2]
   ac_nf0
   simp only [ziB,zam,zbV e]
   rw [a1]
   ac_nf0
   simp only [ziB,zam,zbV e]
   rw [a2]
   ac_nf0
   rw [zpH]
   ac_nf0
   have:decide ((bs k:Int)<(bs b:Int))=decide (bs k<bs b):=by simp
   rw [this]
   simpa using p
  ·rw [decide_eq_false h2] at p
   rw [show (T k q*T b c==T b q*T k c)=false from beq_eq_false_iff_ne.mpr h2]
   ac_nf0
   simpa using p
theorem zfg {n q:Nat} {T:Nat->Nat->Int} {bs:Nat->Nat} (z:Sm n q T) {c a:Nat} (hc:c<q) {h:Hh} (e:h[a]? = some (.lst ((List.range n).map fun k=>D.int (bs k:Int)))): ∀ (ks:List Nat) (acc:Option Nat) (x4:Option D) {P:Out->Hh->Prop},(∀ k∈ks,k<n)->(∀ b,acc=some b->b<n)->
   (∀ y4,P (.nx [some (zbl (n+1) (q+1) T),some (.cel a),some (.int (c:Int)),some (zlg (ks.foldl (lvF bs T q c) acc)),y4]) h)->
   wp (za1 (fun x sd=>zbf (List.set sd 4 (some x))) (ks.map fun (k:Nat)=>D.int (k:Int)) [some (zbl (n+1) (q+1) T),some (.cel a),some (.int (c:Int)),some (zlg acc),x4]) h P
 | [],acc,x4,P,_,_,p=>by
  rw [List.map_nil,zdq,zan]
  exact p x4
 | k::ks,acc,x4,P,hk,ha,p=>by
  have hkn:=hk k qau
  obtain ⟨k1,k2,_⟩:=ix2 (n:=n) (q:=q) (T:=T) (k:=k) (x:=c) (by omega) (by omega)
  have ih:=fun (acc':Option Nat) (hacc:acc'=lvF bs T q c acc k) (hb: ∀ b,acc'=some b->b<n)=>zfg z hc e ks acc' (some (.int (k:Int))) (P:=P) (fun j hj=>hk j (qan _ hj)) hb (by rw [hacc];exact p)
  have hb: ∀ b,lvF bs T q c acc k=some b->b<n:=fun b hb=>by
   unfold lvF at hb
   split at hb
   ·split at hb
    ·cases hb;exact hkn
    ·rename_i b' _
     split at hb
     ·cases hb;exact hkn
     ·cases hb;exact ha _ rfl
   ·exact ha b hb
  rw [qaM,zcj]
  generalize za1 (fun x sd=>zbf (List.set sd 4 (some x))) (ks.map fun (k:Nat)=>D.int (k:Int))=rest at ih ⊢
  simp only [zbf]
  ac_nf0
  rw [k1]
  ac_nf0
  rw [k2]
  ac_nf0
  by_cases hp:0<T k c
  ·rw [decide_eq_true hp]
   ac_nf0
   cases acc with
   | none=>
    rw [show zlg none= .non from rfl,show zsx .non .non=pure (.bl true) from rfl]
    ac_nf0
    exact ih (some k) (by unfold lvF;rw [qa4 hp]) (fun b hb=>by cases hb;exact hkn)
   | some b=>
    rw [show zlg (some b)= .int (b:Int) from rfl,show zsx (.int (b:Int)) .non=pure (.bl false) from rfl]
    ac_nf0
    refine zlJ z hc hkn (ha b rfl) e ?_
    ac_nf0
    by_cases hh:ahd bs T q c k b=true
    ·rw [hh]
     ac_nf0
     exact ih (some k) (by unfold lvF;rw [qa4 hp];simp [hh]) (fun b hb=>by cases hb;exact hkn)
    ·rw [Bool.not_eq_true] at hh
     rw [hh]
     ac_nf0
     exact ih (some b) (by unfold lvF;rw [qa4 hp];simp [hh]) ha
  ·rw [decide_eq_false hp]
   ac_nf0
   exact ih acc (by unfold lvF;rw [qa5 hp]) ha
noncomputable def lv (n:Nat) (bs:Nat->Nat) (T:Nat->Nat->Int) (q c:Nat):Option Nat:=(List.range n).foldl (lvF bs T q c) none
theorem zlO {n q:Nat} {T:Nat->Nat->Int} {bs:Nat->Nat} (z:Sm n q T) {c a:Nat} (hc:c<q) (hn:n<=100) {h:Hh} (e:h[a]? = some (.lst ((List.range n).map fun k=>D.int (bs k:Int)))) {P:D->Hh->Prop} (p:P (zlg (lv n bs T q c)) h):
  wp (F_21 [zbl (n+1) (q+1) T,.cel a,.int (c:Int)]) h P:=by
 rw [d_21]
 simp only [G_21]
 have el:wp (zeW [.cel a]) h fun d h'=>d= .int (n:Int)/\h'=h:=by
  show wp (do let ds<-zao a;pure (D.int ds.length)) h _
  simp only [zam,zbV e,zan,qaH,List.length_range,and_self]
 ac_nf0
 refine zfr el fun d h' ⟨ed,eh⟩=> ?_
 subst ed eh
 ac_nf0
 rw [zhM (by omega)]
 ac_nf0
 refine zfg z hc e (List.range n) none none (fun k hk=>List.mem_range.mp hk) (fun b hb=>by cases hb) fun y4=> ?_
 ac_nf0
 exact p
theorem fdB {i j:Int} (h0:0<j) (h1:j.natAbs<2^6000):zdE (.int i) (.int j)=pure (.int (i / j)):=by
 obtain ⟨k,rfl⟩: ∃ k:Nat,j=(k:Int):=⟨j.toNat,by omega⟩
 rw [Int.natAbs_natCast] at h1
 exact zcT (by omega) (qaS (Nat.le_of_lt h1) (zko (by decide)))
theorem zn5 {f g:FE} {sd:Sd}:zke (zac f (zac g zav)) sd=(do let x<-f sd;let y<-g sd;zlN [x,y]):=by
 unfold zke
 simp only [zaI,za2,bind_assoc,pure_bind]
theorem zl5 {C:Nat} {f g:Nat->Int} {c:Nat} {d:Int} (hC:C<=100) (hc:c<C) (hf: ∀ x,x<C->(f x).natAbs<2^6000) (hg: ∀ x,x<C->(g x).natAbs<2^6000) (d0:0<d) (d1:d.natAbs<2^6000):
  F_24 [zbM C f,zbM C g,.int (c:Int),.int d]=pure (zbM C fun x=>(f x*g c - g x*f c) / d):=by
 have af:dIx (zbM C f) (.int (c:Int))=pure (.int (f c)):=by unfold zbM;rw [zeP,zeO (f:=fun x=>D.int (f x)) hc];rfl
 have ag:dIx (zbM C g) (.int (c:Int))=pure (.int (g c)):=by unfold zbM;rw [zeP,zeO (f:=fun x=>D.int (g x)) hc];rfl
 have ez:zlN [zbM C f,zbM C g]=pure ((List.range C).map fun k=> .tup [.int (f k),.int (g k)]):=by
  unfold zbM
  show (pure (zf5 _ _):M (List D))=_
  rw [zoz]
 have e:=zbx (g':=fun (k:Nat)=>D.tup [.int (f k),.int (g k)]) (fi:=zke (zac (zaf 0) (zac (zaf 1) zav))) (g:=zbp 2 (zar (zaG 0) (zar (zaG 1) zbq))) (tc:=fun _=>pure true) (te:=zes) (src:=[none,none,some 1,some 2,some 0,some 3]) (sd:=[some (zbM C f),some (zbM C g),some (.int (c:Int)),some (.int d)]) (xs:=List.range C)
  (k:=fun x=>some (.int ((f x*g c - g x*f c) / d))) (by rw [zn5];ac_nf0;exact ez) (by rw [List.length_range];omega) fun x hx=>by
   have hx:=List.mem_range.mp hx
   have m1:=zmC (hf x hx) (hg c hc)
   have m2:=zmC (hg x hx) (hf c hc)
   have m3:=fdB (i:=f x*g c - g x*f c) d0 d1
   simp only [zbc,zes]
   rw [show zak [none,none,some 1,some 2,some 0,some 3] [some (zbM C f),some (zbM C g),some (.int (c:Int)),some (.int d)]=[none,none,some (zbM C g),some (.int (c:Int)),some (zbM C f),some (.int d)] from rfl]
   ac_nf0
   rw [ag]
   ac_nf0
   rw [m1]
   ac_nf0
   rw [af]
   ac_nf0
   rw [m2]
   ac_nf0
   rw [m3]
   ac_nf0
 rw [d_24]
 simp only [G_24]
 ac_nf0
 rw [e]
 ac_nf0
 rw [List.filterMap_eq_map']
 rfl
theorem zmu {n q:Nat} {T:Nat->Nat->Int} (z:Sm n q T) (hn:n<=90) (hq:q<=90) {pl c:Nat} (hp:pl<n) (hc:c<q) {d:Int} (d0:0<d) (d1:d.natAbs<2^6000):
  F_23 [zbl (n+1) (q+1) T,.int (pl:Int),.int (c:Int),.int d]=pure (zbl (n+1) (q+1) (SX.piv T d pl c)):=by
 have k1:=(ix2 (n:=n) (q:=q) (T:=T) (k:=pl) (x:=c) (by omega) (by omega)).1
 have ez:zhj (zaf 0) [some (zbl (n+1) (q+1) T),some (.int (pl:Int)),some (.int (c:Int)),some (.int d),some (zbM (q+1) (T pl))]=pure ((List.range (n+1)).map fun (k:Nat)=> .tup [.int k,zbM (q+1) (T k)]):=by
  rw [zjz]
  ac_nf0
  unfold zbl
  show (pure (zf3 _):M (List D))=_
  rw [zkS]
 have e:=zbx (g':=fun (k:Nat)=>D.tup [.int k,zbM (q+1) (T k)]) (fi:=zhj (zaf 0)) (g:=zbp 2 (zar (zaG 0) (zar (zaG 1) zbq))) (tc:=fun _=>pure true) (te:=zdi) (src:=[none,none,some 1,some 4,some 2,some 3]) (sd:=[some (zbl (n+1) (q+1) T),some (.int (pl:Int)),some (.int (c:Int)),some (.int d),some (zbM (q+1) (T pl))]) (xs:=List.range (n+1))
  (k:=fun x=>some (zbM (q+1) (SX.piv T d pl c x))) ez (by rw [List.length_range];omega) fun x hx=>by
   have hx:=List.mem_range.mp hx
   have es:=zl5 (C:=q+1) (f:=T x) (g:=T pl) (c:=c) (d:=d) (by omega) (by omega) (z x hx) (z pl (by omega)) d0 d1
   simp only [zbc,zdi]
   rw [show zak [none,none,some 1,some 4,some 2,some 3] [some (zbl (n+1) (q+1) T),some (.int (pl:Int)),some (.int (c:Int)),some (.int d),some (zbM (q+1) (T pl))]=[none,none,some (.int (pl:Int)),some (zbM (q+1) (T pl)),some (.int (c:Int)),some (.int d)] from rfl]
   ac_nf0
   rw [zn6]
   ac_nf0
   by_cases h:x=pl
   ·rw [show ((x:Int)==(pl:Int))=true from beq_iff_eq.mpr (by omega)]
    ac_nf0
    have:SX.piv T d pl c x=T x:=by funext y;unfold SX.piv;rw [qa4 h,h]
    rw [this]
   ·rw [show ((x:Int)==(pl:Int))=false from beq_eq_false_iff_ne.mpr (by omega)]
    ac_nf0
    rw [es]
    ac_nf0
    have:SX.piv T d pl c x=fun y=>(T x y*T pl c - T pl y*T x c) / d:=by funext y;unfold SX.piv;rw [qa5 h]
    rw [this]
 rw [d_23]
 simp only [G_23]
 ac_nf0
 rw [k1]
 ac_nf0
 rw [e]
 ac_nf0
 rw [List.filterMap_eq_map']
 rfl
theorem zm1 {n q:Nat} {T:Nat->Nat->Int} {bs:Nat->Nat} {c:Nat}: ∀ (ks done:List Nat) (acc:Option Nat),(∀ k∈done,k<n)->(∀ k∈ks,k<n)->
  (acc=none-> ∀ k∈done, ¬0<T k c)->(∀ b,acc=some b->b<n/\0<T b c/\ ∀ k∈done,0<T k c->T b q*T k c<T k q*T b c\/(T b q*T k c=T k q*T b c/\bs b<=bs k))->
  (ks.foldl (lvF bs T q c) acc=none-> ∀ k∈done++ks, ¬0<T k c)/\(∀ b,ks.foldl (lvF bs T q c) acc=some b->b<n/\0<T b c/\ ∀ k∈done++ks,0<T k c->T b q*T k c<T k q*T b c\/(T b q*T k c=T k q*T b c/\bs b<=bs k))
 | [],done,acc,_,_,h1,h2=>by rw [List.foldl_nil,List.append_nil];exact ⟨h1,h2⟩
 | k::ks,done,acc,hd,hk,h1,h2=>by
  have hkn:=hk k qau
  rw [List.foldl_cons,show done++k::ks=(done++[k])++ks by simp]
  refine zm1 ks (done++[k]) (lvF bs T q c acc k) (fun j hj=>by
    rcases qaK.mp hj with z | z
    · exact hd j z
    · rw [List.mem_singleton.mp z];exact hkn) (fun j hj=>hk j (qan _ hj)) ?_ ?_
  ·intro e j hj
   unfold lvF at e
   split at e
   ·split at e
    ·cases e
    ·split at e<;>cases e
   ·rename_i hp
    rcases qaK.mp hj with z | z
    ·exact h1 e j z
    ·rw [List.mem_singleton.mp z];exact hp
  ·intro b e
   unfold lvF at e
   split at e
   ·rename_i hp
    have self: ∀ j,j∈[k]->0<T j c->T k q*T j c<T j q*T k c\/(T k q*T j c=T j q*T k c/\bs k<=bs j):=fun j hj _=>by
     rw [List.mem_singleton.mp hj]
     exact .inr ⟨rfl,qaV _⟩
    split at e
    ·cases e
     refine ⟨hkn,hp,fun j hj hjp=> ?_⟩
     rcases qaK.mp hj with z | z
     ·exact absurd hjp (h1 rfl j z)
     ·exact self j z hjp
    ·rename_i b' 
     obtain ⟨g1,g2,g3⟩:=h2 b' rfl
     split at e
     ·rename_i ha
      cases e
      refine ⟨hkn,hp,fun j hj hjp=> ?_⟩
      rcases qaK.mp hj with z | z
      ·have g4:=g3 j z hjp
       unfold ahd at ha
       rw [Bool.or_eq_true,qaG,qaD,qaD,qaD] at ha
       rcases ha with a1 | ⟨a1,a2⟩
       ·left
        refine SX.zhc hp g2 hjp a1 ?_
        rcases g4 with g5 | ⟨g5,_⟩
        ·exact Int.le_of_lt g5
        ·exact Int.le_of_eq g5
       ·rcases g4 with g5 | ⟨g5,g6⟩
        ·left
         have:=SX.zhc (a:= -(T j q)) (b:=T j c) (c:= -(T b' q)) (d:=T b' c) (e:= -(T k q)) (f:=T k c) hjp g2 hp (by rw [Int.neg_mul,Int.neg_mul];omega) (by rw [Int.neg_mul,Int.neg_mul];omega)
         rw [Int.neg_mul,Int.neg_mul] at this
         omega
        ·right
         refine ⟨?_,by omega⟩
         have l1:=SX.znC (a:=T k q) (b:=T k c) (c:=T b' q) (d:=T b' c) (e:=T j q) (f:=T j c) hp g2 hjp (Int.le_of_eq a1) (Int.le_of_eq g5)
         have l2:=SX.znC (a:=T j q) (b:=T j c) (c:=T b' q) (d:=T b' c) (e:=T k q) (f:=T k c) hjp g2 hp (Int.le_of_eq g5.symm) (Int.le_of_eq a1.symm)
         omega
      ·exact self j z hjp
     ·rename_i ha
      cases e
      refine ⟨g1,g2,fun j hj hjp=> ?_⟩
      rcases qaK.mp hj with z | z
      ·exact g3 j z hjp
      ·rw [List.mem_singleton.mp z]
       rw [Bool.not_eq_true] at ha
       unfold ahd at ha
       rw [Bool.or_eq_false_iff,Bool.and_eq_false_iff,decide_eq_false_iff_not,decide_eq_false_iff_not,decide_eq_false_iff_not] at ha
       obtain ⟨a1,a2⟩:=ha
       by_cases a3:T k q*T b c=T b q*T k c
       ·right
        refine ⟨a3.symm,?_⟩
        rcases a2 with a2 | a2
        ·exact absurd a3 a2
        ·omega
       ·left
        omega
   ·rename_i hp
    obtain ⟨g1,g2,g3⟩:=h2 b e
    refine ⟨g1,g2,fun j hj hjp=> ?_⟩
    rcases qaK.mp hj with z | z
    ·exact g3 j z hjp
    ·rw [List.mem_singleton.mp z] at hjp
     exact absurd hjp hp
theorem zrB {n q:Nat} {T:Nat->Nat->Int} {bs:Nat->Nat} {c:Nat} (he:ent n q T=some c) (hx: ∃ k,k<n/\0<T k c): ∃ pl,lv n bs T q c=some pl/\SX.Stp n q bs T c pl:=by
 obtain ⟨i1,i2⟩:=zm1 (n:=n) (q:=q) (T:=T) (bs:=bs) (c:=c) (List.range n) [] none (by simp) (fun k hk=>List.mem_range.mp hk) (by simp) (by simp)
 have hent:=List.find?_eq_some_iff_getElem.mp he
 unfold lv
 generalize hr:(List.range n).foldl (lvF bs T q c) none=r at i1 i2 ⊢
 obtain ⟨h1,j,hj,h2,h3⟩:=hent
 have hjq:j<q:=by simpa using hj
 have hjc:j=c:=by simpa using h2
 subst hjc
 cases r with
 | none=>
  obtain ⟨k,hk,hp⟩:=hx
  exact absurd hp (i1 rfl k (by simpa using hk))
 | some pl=>
  obtain ⟨g1,g2,g3⟩:=i2 pl rfl
  refine ⟨pl,rfl,⟨hjq,by simpa using h1,fun x hx=> ?_,g1,g2,fun k hk hp=>g3 k (by simpa using hk) hp⟩⟩
  have:=h3 x hx
  simp at this
  exact this
theorem zmr {n q:Nat} {T:Nat->Nat->Int} (he:ent n q T=none): ∀ x,x<q->0<=T n x:=fun x hx=>by
 have:=List.find?_eq_none.mp he x (List.mem_range.mpr hx)
 simp at this
 exact this
noncomputable def lpA (m:Nat) (os:List (List Int×Int)) (i x:Nat):Int:=if i<os.length then (if x<m then (if (os.getD i ([],0)).1.any (· == (x:Int))=true then 1 else 0) else if x<m+os.length then (if x=m+i then 1 else 0) else (os.getD i ([],0)).2) else (if x<m then -1 else 0)
theorem zsg {k:Nat} {i:Nat} (hi:i<os.length):zbM (k+os.length+1) (lpA k os i)= .lst ((List.range k).map (fun (x:Nat)=>D.int (if (os.getD i ([],0)).1.any (· == (x:Int))=true then 1 else 0))++(List.range os.length).map (fun (j:Nat)=>D.int (if j=i then 1 else 0))++[.int (os.getD i ([],0)).2]):=by
 unfold zbM
 rw [zew (fun x=>D.int (lpA k os i x)) (k+os.length) 1,zew (fun x=>D.int (lpA k os i x)) k os.length]
 congr 2
 ·congr 1
  ·refine List.map_congr_left fun x hx=> ?_
   have hx:=List.mem_range.mp hx
   unfold lpA
   rw [qa4 hi,qa4 hx]
  ·refine List.map_congr_left fun j hj=> ?_
   have hj:=List.mem_range.mp hj
   unfold lpA
   rw [qa4 hi,qa5 (by omega),qa4 (by omega)]
   by_cases h:j=i
   ·rw [qa4 (by omega),qa4 h]
   ·rw [qa5 (by omega),qa5 h]
 ·show [D.int (lpA k os i (k+os.length+0))]=_
  unfold lpA
  rw [qa4 hi,qa5 (by omega),qa5 (by omega)]
theorem zo1 {k:Nat}:zbM (k+os.length+1) (lpA k os os.length)= .lst (List.replicate k (.int (-1))++List.replicate (os.length+1) (.int 0)):=by
 unfold zbM
 rw [Nat.add_assoc,zew (fun x=>D.int (lpA k os os.length x)) k (os.length+1)]
 congr 2
 ·rw [List.eq_replicate_iff]
  refine ⟨by simp,fun d hd=> ?_⟩
  obtain ⟨x,hx,rfl⟩:=qaU.mp hd
  have hx:=List.mem_range.mp hx
  unfold lpA
  rw [qa5 (qaN _),qa4 hx]
 ·rw [List.eq_replicate_iff]
  refine ⟨by simp,fun d hd=> ?_⟩
  obtain ⟨x,hx,rfl⟩:=qaU.mp hd
  unfold lpA
  rw [qa5 (qaN _),qa5 (by omega)]
theorem zmh {o:List Int×Int} {k:Nat} (hk:k<=100) {fi:FA} {src:List (Option Nat)} {sd:Sd} (hi:fi sd=pure ((List.range k).map fun (x:Nat)=>D.int (x:Int))) (eb:zak src sd=[none,some (zb8 o)]):
  zaK fi (zaG 0) (fun _=>pure true) zcp src sd=pure (.lst ((List.range k).map fun (x:Nat)=>D.int (if o.1.any (· == (x:Int))=true then 1 else 0))):=by
 rw [<- List.filterMap_eq_map']
 refine zbx (g':=fun (x:Nat)=>D.int (x:Int)) hi (by rw [List.length_range];omega) fun x hx=> ?_
 rw [eb]
 simp only [zbc,zcp]
 cases h:o.1.any (· == (x:Int)) with
 | true=>
  ac_nf0
  rw [zds,h]
  ac_nf0
 | false=>
  ac_nf0
  rw [zds,h]
  ac_nf0
theorem zmi {j k:Nat} (hk:k<=100) {fi:FA} {src:List (Option Nat)} {sd:Sd} (hi:fi sd=pure ((List.range k).map fun (x:Nat)=>D.int (x:Int))) (eb:zak src sd=[none,some (.int (j:Int))]):
  zaK fi (zaG 0) (fun _=>pure true) zco src sd=pure (.lst ((List.range k).map fun (x:Nat)=>D.int (if x=j then 1 else 0))):=by
 rw [<- List.filterMap_eq_map']
 refine zbx (g':=fun (x:Nat)=>D.int (x:Int)) hi (by rw [List.length_range];omega) fun x hx=> ?_
 rw [eb]
 simp only [zbc,zco]
 ac_nf0
 rw [zn6]
 ac_nf0
 by_cases h:x=j
 ·rw [show ((x:Int)==(j:Int))=true from beq_iff_eq.mpr (by omega),qa4 h]
  ac_nf0
 ·rw [show ((x:Int)==(j:Int))=false from beq_eq_false_iff_ne.mpr (by omega),qa5 h]
  ac_nf0
theorem zff (s:Stk m os) {a:Nat}: ∀ (ks:List Nat) (rs:List D) {h:Hh} {x3 x4 x5:Option D} {P:Out->Hh->Prop},(∀ k∈ks,k<os.length)->h[a]? = some (.lst rs)->rs.length+ks.length<=100->
   (∀ y3 y4 y5,P (.nx [some (zca m os),some (.cel a),some (.int (os.length:Int)),y3,y4,y5]) (h.set a (.lst (rs++ks.map fun i=>zbM (m.toNat+os.length+1) (lpA m.toNat os i)))))->
   wp (za1 (fun x sd=>do let sd1<-zbp 2 (zar (zaG 3) (zar (zaG 4) zbq)) x sd;zbI sd1) (ks.map fun (i:Nat)=>D.tup [.int (i:Int),zb8 (os.getD i ([],0))]) [some (zca m os),some (.cel a),some (.int (os.length:Int)),x3,x4,x5]) h P
 | [],rs,h,x3,x4,x5,P,_,e,_,p=>by
  rw [List.map_nil,zdq,zan]
  have:=p x3 x4 x5
  rw [List.map_nil,List.append_nil] at this
  have hs:h.set a (.lst rs)=h:=by
   obtain ⟨h1,h2⟩:=qac.mp e
   rw [<- h2]
   exact List.set_getElem_self h1
  rw [hs] at this
  exact this
 | k::ks,rs,h,x3,x4,x5,P,hk,e,hl,p=>by
  have m0:=s.m0
  have m1:=s.m1
  have ml:=s.len
  have hkn:=hk k qau
  have ha:a<h.length:=(qac.mp e).1
  have ih:= @zff s a ks (rs++[zbM (m.toNat+os.length+1) (lpA m.toNat os k)]) (h.set a (.lst (rs++[zbM (m.toNat+os.length+1) (lpA m.toNat os k)])))
  rw [qaM,zcj]
  generalize za1 (fun x sd=>do let sd1<-zbp 2 (zar (zaG 3) (zar (zaG 4) zbq)) x sd;zbI sd1) (ks.map fun (i:Nat)=>D.tup [.int (i:Int),zb8 (os.getD i ([],0))])=rest at ih ⊢
  generalize ho:os.getD k ([],0)=o
  have c1:=zmh (o:=o) (k:=m.toNat) (by omega) (fi:=ze4 (zac (cOp dIx (zaf 0) (cK (.int 0))) zav)) (src:=[none,some 4]) (sd:=[some (zca m os),some (.cel a),some (.int (os.length:Int)),some (.int (k:Int)),some (zb8 o),x5]) (by
    ac_nf0
    rw [zoo]
    ac_nf0
    rw [show m=((m.toNat:Nat):Int) by omega,zhM (by omega)]
    rfl) rfl
  simp only [zbI]
  rw [show zbp 2 (zar (zaG 3) (zar (zaG 4) zbq)) (D.tup [.int (k:Int),zb8 o]) [some (zca m os),some (.cel a),some (.int (os.length:Int)),x3,x4,x5]=pure [some (zca m os),some (.cel a),some (.int (os.length:Int)),some (.int (k:Int)),some (zb8 o),x5] from rfl]
  simp only [pure_bind,zbg,zcM,bind_assoc]
  rw [c1]
  generalize hx5:D.lst ((List.range m.toNat).map fun (x:Nat)=>D.int (if o.1.any (· == (x:Int))=true then 1 else 0))=d5
  simp only [pure_bind,List.set,zf8,zhE,zeL,zd7,zdk,zaL,zaE,bind_assoc,zam,zbV e,zan]
  have c2:=zmi (j:=k) (k:=os.length) (by omega) (fi:=ze4 (zac (zaf 2) zav)) (src:=[none,some 3]) (sd:=[some (zca m os),some (.cel a),some (.int (os.length:Int)),some (.int (k:Int)),some (zb8 o),some d5]) (by
    ac_nf0
    rw [zhM (by omega)]) rfl
  simp only [zb8,tI] at c2
  ac_nf0
  rw [c2, <-hx5]
  ac_nf0
  rw [zaJ (by simp;omega)]
  ac_nf0
  rw [zaJ (by simp;omega)]
  ac_nf0
  simp only [zam,zbV e,zan]
  rw [zaJ (by simp;simp at hl;omega)]
  ac_nf0
  simp only [zfi]
  have hrow:=zsg (os:=os) (k:=m.toNat) hkn
  rw [ho] at hrow
  rw [<- hrow]
  refine ih (fun j hj=>hk j (qan _ hj)) (by rw [qai ha]) (by simp at hl ⊢; omega) fun y3 y4 y5=> ?_
  rw [List.set_set]
  have:=p y3 y4 y5
  rw [qaM] at this
  simpa using this
theorem zmc (s:Stk m os):Ev (F_19 [zca m os]) (zbl (os.length+1) (m.toNat+os.length+1) (lpA m.toNat os)):=by
 refine Ev.of_wp fun h=> ?_
 have m0:=s.m0
 have m1:=s.m1
 have ml:=s.len
 rw [d_19]
 simp only [G_19]
 have en:zsD (cOp dIx (zaf 0) (cK (.int 1))) [some (zca m os),some (.cel h.length),some (.int (os.length:Int)),none,none,none]=pure ((List.range os.length).map fun (i:Nat)=>D.tup [.int (i:Int),zb8 (os.getD i ([],0))]):=by
  unfold zsD
  ac_nf0
  rw [zlM]
  show (pure (zf3 (os.map zb8)):M (List D))=_
  unfold zf3
  rw [qaH]
  congr 1
  refine List.map_congr_left fun k hk=> ?_
  have hk:=List.mem_range.mp hk
  rw [show (os.map zb8).getD k .non=zb8 (os.getD k ([],0)) by simp [List.getD,hk]]
  rfl
 ac_nf0
 rw [zlM]
 ac_nf0
 rw [en]
 refine zan.mpr ?_
 have e0:(h++[C.lst []])[h.length]? = some (.lst []):=by simp
 refine zff s (List.range os.length) [] (fun k hk=>List.mem_range.mp hk) e0 (by simp;omega) fun y3 y4 y5=> ?_
 rw [List.nil_append]
 have e1:((h++[C.lst []]).set h.length (.lst ((List.range os.length).map fun i=>zbM (m.toNat+os.length+1) (lpA m.toNat os i))))[h.length]? = some (.lst ((List.range os.length).map fun i=>zbM (m.toNat+os.length+1) (lpA m.toNat os i))):=qai (by simp)
 have e2:zdK (.lst (List.replicate m.toNat (.int (-1)))) (.lst (List.replicate (os.length+1) (.int 0)))=pure (zbM (m.toNat+os.length+1) (lpA m.toNat os os.length)):=by
  rw [zm0,zaJ (by simp;omega),zo1]
  rfl
 have e3:zhr (.lst [.int (-1)]) (.int m)=pure (.lst (List.replicate m.toNat (.int (-1)))):=by
  have:=zgR (.int (-1)) (n:=m.toNat) (by omega)
  rw [show ((m.toNat:Nat):Int)=m by omega] at this
  exact this
 have e4:zhr (.lst [.int 0]) (.int ((os.length:Int)+1))=pure (.lst (List.replicate (os.length+1) (.int 0))):=zgR (.int 0) (n:=os.length+1) (by omega)
 generalize hH:(h++[C.lst []]).set h.length (.lst ((List.range os.length).map fun i=>zbM (m.toNat+os.length+1) (lpA m.toNat os i)))=H at e1 ⊢
 have hk:Kp h.length h H:=by
  rw [<- hH]
  refine ⟨by simp,fun k hk=> ?_⟩
  rw [qao (by omega),qad hk]
 simp only [zf8,zbg,zhE,zeL,zd7,zdk,zaL,zaE,pure_bind,bind_assoc,zam,zbV e1,zan]
 ac_nf0
 rw [zoo]
 ac_nf0
 rw [e3]
 ac_nf0
 rw [e4]
 simp only [pure_bind,zam,zan]
 rw [e2]
 simp only [pure_bind,zam,zan,zbV e1]
 rw [zaJ (by simp;omega)]
 ac_nf0
 simp only [zfi]
 have hl:=(qac.mp e1).1
 refine zmN (qai hl) ?_
 refine ⟨?_,Kp.gro ⟨by rw [qaI,qaI];exact hk.1,fun k hkk=> ?_⟩⟩
 ·unfold zbl
  rw [List.range_succ,List.map_append]
  rfl
 ·rw [qao (by omega),qao (by omega)]
  exact hk.2 k hkk
theorem zp2 (s:Stk m os) (hf:zi9 m os=true):SX.LP os.length m.toNat (lpA m.toNat os) where
 nn:=fun i hi t ht=>by
  unfold lpA
  rw [qa4 hi,qa4 ht]
  split<;>decide
 sl:=fun i hi j hj=>by
  unfold lpA
  rw [qa4 hi,qa5 (by omega),qa4 (by omega)]
  by_cases h:i=j
  ·rw [qa4 (by omega),qa4 h]
  ·rw [qa5 (by omega),qa5 h]
 g1:=fun t ht=>by
  unfold lpA
  rw [qa5 (qaN _),qa4 ht]
 g0:=fun j hj=>by
  unfold lpA
  rw [qa5 (qaN _),qa5 (by omega)]
 gq:=by
  unfold lpA
  rw [qa5 (qaN _),qa5 (by omega)]
 ful:=fun t ht=>by
  have m0:=s.m0
  obtain ⟨o,ho,hto⟩:=(zhe s).mp hf (t:Int) (by omega) (by omega)
  obtain ⟨i,hi,e⟩:=List.getElem_of_mem ho
  refine ⟨i,hi,?_⟩
  unfold lpA
  rw [qa4 hi,qa4 ht]
  have:os.getD i ([],0)=o:=by simp [List.getD,hi,e]
  rw [this,qa4 (zei.mpr hto)]
  decide
 rhs:=fun i hi=>by
  unfold lpA
  rw [qa4 hi,qa5 (by omega),qa5 (by omega)]
  have:os.getD i ([],0)=os[i]:=by simp [List.getD,hi]
  rw [this]
  have:=s.pos os[i] (List.getElem_mem hi)
  omega
noncomputable def nxt (n q:Nat) (s:SX.St):SX.St:=match ent n q s.T with
 | none=>s
 | some c=>match lv n s.bs s.T q c with
  | none=>s
  | some pl=>⟨SX.nb s.bs pl c,SX.piv s.T s.d pl c,s.T pl c⟩
noncomputable def sts (n q:Nat) (s:SX.St):Nat->SX.St
 | 0=>s
 | i+1=>nxt n q (sts n q s i)
structure Iv (n m:Nat) (A:Nat->Nat->Int) (s:SX.St):Prop where
 tb:SX.Tb n (m+n+1) A s.bs s.T s.d
 vr: ∀ k,k<n->s.bs k<m+n
 fe: ∀ k,k<n->0<=s.T k (m+n)
theorem Iv.go {n k:Nat} {A:Nat->Nat->Int} (p:SX.LP n k A) {s:SX.St} (v:Iv n k A s) {c:Nat} (he:ent n (k+n) s.T=some c): ∃ pl,lv n s.bs s.T (k+n) c=some pl/\SX.Stp n (k+n) s.bs s.T c pl/\nxt n (k+n) s=⟨SX.nb s.bs pl c,SX.piv s.T s.d pl c,s.T pl c⟩/\Iv n k A (nxt n (k+n) s):=by
 have hc:c<k+n/\s.T n c<0:=by
  refine ⟨List.mem_range.mp (List.mem_of_find?_eq_some he),?_⟩
  simpa using List.find?_some he
 obtain ⟨pl,e,st⟩:=zrB (bs:=s.bs) he (p.ray v.tb v.vr hc.1 hc.2)
 have en:nxt n (k+n) s=⟨SX.nb s.bs pl c,SX.piv s.T s.d pl c,s.T pl c⟩:=by
  unfold nxt
  rw [he]
  simp only
  rw [e]
 refine ⟨pl,e,st,en,?_⟩
 rw [en]
 refine ⟨v.tb.pivot st.p1 (by omega) st.p2,fun j hj=> ?_,SX.zuY v.tb v.fe st⟩
 show SX.nb s.bs pl c j<k+n
 unfold SX.nb
 split
 ·exact hc.1
 ·exact v.vr j hj
theorem Iv.nxt_ {n k:Nat} {A:Nat->Nat->Int} (p:SX.LP n k A) {s:SX.St} (v:Iv n k A s):Iv n k A (nxt n (k+n) s):=by
 cases he:ent n (k+n) s.T with
 | none=>unfold nxt;rw [he];exact v
 | some c=>obtain ⟨_,_,_,_,h⟩:=v.go p he;exact h
theorem Iv.all {n k:Nat} {A:Nat->Nat->Int} (p:SX.LP n k A) {s:SX.St} (v:Iv n k A s): ∀ i,Iv n k A (sts n (k+n) s i)
 | 0=>v
 | i+1=>(Iv.all p v i).nxt_ p
theorem Iv.ends {n k:Nat} {A:Nat->Nat->Int} (p:SX.LP n k A) {s:SX.St} (v:Iv n k A s): ∃ L,L<=(k+n)^n/\ent n (k+n) (sts n (k+n) s L).T=none/\ ∀ i,i<L-> ∃ c,ent n (k+n) (sts n (k+n) s i).T=some c:=by
 have key: ∀ N:Nat,(∀ i,i<N-> ∃ c,ent n (k+n) (sts n (k+n) s i).T=some c)\/ ∃ L,L<N/\ent n (k+n) (sts n (k+n) s L).T=none/\ ∀ i,i<L-> ∃ c,ent n (k+n) (sts n (k+n) s i).T=some c:=by
  intro N
  induction N with
  | zero=>exact .inl fun i hi=>by omega
  | succ N ih=>
   rcases ih with h | ⟨L,h1,h2⟩
   ·cases e:ent n (k+n) (sts n (k+n) s N).T with
    | none=>exact .inr ⟨N,by omega,e,h⟩
    | some c=>
     refine .inl fun i hi=> ?_
     by_cases hiN:i=N
     ·subst hiN;exact ⟨c,e⟩
     ·exact h i (by omega)
   ·exact .inr ⟨L,by omega,h2⟩
 rcases key ((k+n)^n+1) with h | ⟨L,h1,h2⟩
 ·exfalso
  have r:SX.Run n (k+n) A ((k+n)^n) (sts n (k+n) s) (fun i=>(ent n (k+n) (sts n (k+n) s i).T).getD 0) (fun i=>(lv n (sts n (k+n) s i).bs (sts n (k+n) s i).T (k+n) ((ent n (k+n) (sts n (k+n) s i).T).getD 0)).getD 0):=by
   refine ⟨fun i _=>(Iv.all p v i).tb,fun i _=>(Iv.all p v i).vr,fun i _=>(Iv.all p v i).fe,fun i hi=> ?_,fun i hi=> ?_⟩
   ·obtain ⟨c,e⟩:=h i (by omega)
    obtain ⟨pl,e1,st,_⟩:=(Iv.all p v i).go p e
    rw [e,Option.getD_some,e1]
    exact st
   ·obtain ⟨c,e⟩:=h i (by omega)
    obtain ⟨pl,e1,st,e2,_⟩:=(Iv.all p v i).go p e
    have e3:sts n (k+n) s (i+1)=nxt n (k+n) (sts n (k+n) s i):=rfl
    rw [e,Option.getD_some,e1,e3,e2]
    exact ⟨rfl,fun _ _ _ _=>rfl,rfl⟩
  exact absurd r.short (qaN _)
 ·exact ⟨L,by omega,h2⟩
theorem zjK {n q K:Nat} {A:Nat->Nat->Int} (h: ∀ i,i<n->(A i q).natAbs<=K) (i:Nat):(SX.col n A q i).natAbs<=K:=by
 unfold SX.col
 split
 ·rename_i hi;exact h i hi
 ·exact Nat.zero_le _
theorem Iv.d_le {n k:Nat} {A:Nat->Nat->Int} {s:SX.St} (v:Iv n k A s) (h1: ∀ i,i<n-> ∀ x,x<k+n->(A i x).natAbs<=1):s.d.natAbs<=SX.wb 1 n:=by
 rw [<- v.tb.det]
 refine SX.zoi n _ SX.zbw fun w hw i=> ?_
 obtain ⟨j,hj,rfl⟩:=qaU.mp hw
 exact zjK (fun i hi=>h1 i hi _ (v.vr j (List.mem_range.mp hj))) i
theorem Iv.t_le {n k K:Nat} {A:Nat->Nat->Int} {s:SX.St} (v:Iv n k A s) (h1: ∀ i,i<n-> ∀ x,x<k+n+1->(A i x).natAbs<=K) {j x:Nat} (hj:j<n) (hx:x<k+n+1):(s.T j x).natAbs<=SX.wb K n:=by
 rw [<- v.tb.ent hj hx]
 refine SX.zoi n _ (by rw [qaI,SX.zbw]) fun w hw i=> ?_
 rcases List.mem_or_eq_of_mem_set hw with hw | hw
 ·obtain ⟨j,hj,rfl⟩:=qaU.mp hw
  exact zjK (fun i hi=>h1 i hi _ (by have:=v.vr j (List.mem_range.mp hj);omega)) i
 ·rw [hw]
  exact zjK (fun i hi=>h1 i hi _ hx) i
theorem zkw {f:Nat->Int} {B:Nat}: ∀ {n:Nat},(∀ i,i<n->(f i).natAbs<=B)->(SX.sm n f).natAbs<=n*B
 | 0,_=>by simp [SX.sm]
 | n+1,h=>by
  have h1:=zkw (n:=n) fun i hi=>h i (by omega)
  have h2:=h n (by omega)
  have h3:=Int.natAbs_add_le (SX.sm n f) (f n)
  rw [SX.sm,Nat.add_mul,Nat.one_mul]
  omega
theorem ztG: ∀ n,n<=12->SX.wb 1 n<=2^29/\SX.wb (2^64) n<=2^800:=by
 have:((List.range 13).all fun n=>decide (SX.wb 1 n<=2^29) && decide (SX.wb (2^64) n<=2^800))=true:=by decide +kernel
 intro n hn
 have:=List.all_eq_true.mp this n (List.mem_range.mpr (by omega))
 rw [qaG,qaD,qaD] at this
 exact this
theorem zuh (k:Nat): ∀ i,i<os.length-> ∀ x,x<k+os.length->(lpA k os i x).natAbs<=1:=fun i hi x hx=>by
 unfold lpA
 rw [qa4 hi]
 split
 ·split<;>decide
 ·split<;>decide
theorem ztR (hp: ∀ o∈os,o.2.natAbs<=2^64) (k:Nat): ∀ i,i<os.length-> ∀ x,x<k+os.length+1->(lpA k os i x).natAbs<=2^64:=fun i hi x hx=>by
 by_cases h:x<k+os.length
 ·exact qaS (zuh k i hi x h) (by decide)
 ·unfold lpA
  rw [qa4 hi,qa5 (by omega),qa5 h]
  have:os.getD i ([],0)=os[i]:=by simp [List.getD,hi]
  rw [this]
  exact hp _ (List.getElem_mem hi)
theorem Iv.big {k:Nat} {s:SX.St} (hl:os.length<=12) (hp: ∀ o∈os,o.2.natAbs<=2^64) (v:Iv os.length k (lpA k os) s):s.d.natAbs<=2^29/\(∀ j,j<os.length+1-> ∀ x,x<k+os.length+1->(s.T j x).natAbs<=2^900):=by
 obtain ⟨w1,w2⟩:=ztG os.length hl
 have hd:=qaS (v.d_le (zuh k)) w1
 refine ⟨hd,fun j hj x hx=> ?_⟩
 have ht: ∀ j,j<os.length->(s.T j x).natAbs<=2^800:=fun j hj=>qaS (v.t_le (ztR hp k) hj hx) w2
 by_cases h:j<os.length
 ·exact qaS (ht j h) (Nat.pow_le_pow_right (by decide) (by decide))
 ·have e:j=os.length:=by omega
  subst e
  have hg:=v.tb.goal x hx
  have ha: ∀ y,(lpA k os os.length y).natAbs<=1:=fun y=>by
   unfold lpA
   rw [qa5 (qaN _)]
   split<;>decide
  have h1:(SX.sm os.length fun j=>s.T j x*lpA k os os.length (s.bs j)).natAbs<=os.length*2^800:=zkw fun j hj=>by
   rw [Int.natAbs_mul]
   have:=Nat.mul_le_mul (ht j hj) (ha (s.bs j))
   rwa [Nat.mul_one] at this
  have h2:(s.d*lpA k os os.length x).natAbs<=2^29:=by
   rw [Int.natAbs_mul]
   have:=Nat.mul_le_mul hd (ha x)
   rwa [Nat.mul_one] at this
  have h3:s.T os.length x=s.d*lpA k os os.length x - SX.sm os.length fun j=>s.T j x*lpA k os os.length (s.bs j):=by omega
  have h4:os.length*2^800<=12*2^800:=Nat.mul_le_mul_right _ hl
  have h5:12*2^800+2^29<=2^900:=by decide +kernel
  have h6:=qaS h1 h4
  clear h1 h4 ht hg
  rw [h3]
  generalize (SX.sm os.length fun j=>s.T j x*lpA k os os.length (s.bs j))=Y at h6 ⊢
  generalize s.d*lpA k os os.length x=X at h2 ⊢
  generalize (2:Nat)^800=E at h6 h5
  generalize (2:Nat)^900=Z at h5 ⊢
  generalize (2:Nat)^29=F at h2 h5
  omega
noncomputable def zeo (n:Nat) (bs:Nat->Nat):List D:=(List.range n).map fun k=>D.int (bs k:Int)
theorem znI {n:Nat} {bs:Nat->Nat} {pl c:Nat} (h:pl<n):(zeo n bs).set pl (.int (c:Int))=zeo n (SX.nb bs pl c):=by
 unfold zeo
 refine List.ext_getElem? fun j=> ?_
 by_cases hj:pl=j
 ·subst hj
  rw [qai (by simpa using h)]
  simp [h,SX.nb]
 ·rw [qao hj,List.getElem?_map,List.getElem?_map]
  by_cases hn:j<n
  ·rw [List.getElem?_range hn,Option.map_some,Option.map_some]
   unfold SX.nb
   rw [qa5 fun z=>hj z.symm]
  ·rw [List.getElem?_eq_none (by simp;omega)]
   rfl
theorem zh5 {k:Nat} (hl:os.length<=12) (hk:k<=10) (hp: ∀ o∈os,o.2.natAbs<=2^64) (p:SX.LP os.length k (lpA k os)) {s0:SX.St} (v:Iv os.length k (lpA k os) s0) {b L:Nat} {x0:Option D}
  (hL:ent os.length (k+os.length) (sts os.length (k+os.length) s0 L).T=none) (hi: ∀ i,i<L-> ∃ c,ent os.length (k+os.length) (sts os.length (k+os.length) s0 i).T=some c): ∀ (j i fuel:Nat) {h:Hh} {x5:Option D} {P:Out->Hh->Prop},i+j=L->j<fuel->h[b]? = some (.lst (zeo os.length (sts os.length (k+os.length) s0 i).bs))->
   (∀ y5,P (.nx [x0,some (zbl (os.length+1) (k+os.length+1) (sts os.length (k+os.length) s0 L).T),some (.cel b),some (.int (sts os.length (k+os.length) s0 L).d),some .non,y5]) (h.set b (.lst (zeo os.length (sts os.length (k+os.length) s0 L).bs))))->
   wp (zbG zbL zci fuel [x0,some (zbl (os.length+1) (k+os.length+1) (sts os.length (k+os.length) s0 i).T),some (.cel b),some (.int (sts os.length (k+os.length) s0 i).d),some (zlg (ent os.length (k+os.length) (sts os.length (k+os.length) s0 i).T)),x5]) h P
 | 0,i,fuel,h,x5,P,hij,hf,e,q=>by
  obtain ⟨f,rfl⟩: ∃ f,fuel=f+1:=⟨fuel - 1,by omega⟩
  have hiL:i=L:=by omega
  subst hiL
  rw [zdl,hL]
  have hs:h.set b (.lst (zeo os.length (sts os.length (k+os.length) s0 i).bs))=h:=by
   obtain ⟨h1,h2⟩:=qac.mp e
   rw [<- h2]
   exact List.set_getElem_self h1
  rw [hs] at q
  simp only [zbL]
  rw [show zlg none= .non from rfl]
  ac_nf0
  rw [show zlw .non .non=pure (.bl false) from rfl]
  ac_nf0
  exact q x5
 | j+1,i,fuel,h,x5,P,hij,hf,e,q=>by
  obtain ⟨f,rfl⟩: ∃ f,fuel=f+1:=⟨fuel - 1,by omega⟩
  obtain ⟨c,ec⟩:=hi i (by omega)
  have iv:=Iv.all p v i
  obtain ⟨pl,e1,st,e2,_⟩:=iv.go p ec
  have e3:sts os.length (k+os.length) s0 (i+1)=nxt os.length (k+os.length) (sts os.length (k+os.length) s0 i):=rfl
  obtain ⟨z1,z2⟩:=iv.big hl hp
  have ih:= @zh5 k hl hk hp p s0 v b L x0 hL hi j (i+1) f
  rw [e3,e2] at ih
  generalize hs:sts os.length (k+os.length) s0 i=s at*
  have hb:b<h.length:=(qac.mp e).1
  have zm:Sm os.length (k+os.length) s.T:=fun j hj x hx=>zbe (n:=900) (by decide) (z2 j hj x hx)
  have zd:s.d.natAbs<2^6000:=zbe (n:=29) (by decide) z1
  have hc:=st.c1
  have pv:=zmu zm (by omega) (by omega) st.p1 hc iv.tb.dp zd
  have en:=ziu (n:=os.length) (q:=k+os.length) (T:=SX.piv s.T s.d pl c) (by omega)
  obtain ⟨i1,i2,_⟩:=ix2 (n:=os.length) (q:=k+os.length) (T:=SX.piv s.T s.d pl c) (k:=pl) (x:=c) (by have:=st.p1;omega) (by omega)
  have i3:SX.piv s.T s.d pl c pl c=s.T pl c:=by unfold SX.piv;rw [qa4 rfl]
  rw [i3] at i2
  rw [zdl,ec]
  generalize zbG zbL zci f=rest at ih ⊢
  simp only [zbL,zci]
  rw [show zlg (some c)= .int (c:Int) from rfl]
  ac_nf0
  rw [show zlw (.int (c:Int)) .non=pure (.bl true) from rfl]
  ac_nf0
  refine zlO zm hc (by omega) e ?_
  rw [e1,show zlg (some pl)= .int (pl:Int) from rfl,pv]
  ac_nf0
  rw [i1]
  ac_nf0
  rw [i2]
  ac_nf0
  simp only [zhB,zkn,zaL,zaE,pure_bind,bind_assoc,zam,zbV e]
  rw [show ixN (zeo os.length s.bs).length (pl:Int)=some pl by
    unfold ixN zeo
    rw [qa4 (by omega),qa4 (by have:=st.p1;simp;omega)]
    simp]
  ac_nf0
  simp only [zfi]
  rw [znI st.p1,en]
  ac_nf0
  refine ih (by omega) (by omega) (qai hb) fun y5=> ?_
  rw [List.set_set]
  exact q y5
theorem znm {n q:Nat} {bs:Nat->Nat} {T:Nat->Nat->Int} {t:Nat}: ∀ {j:Nat},(∀ a b,a<j->b<j->bs a=bs b->a=b)->(atK (zgt ((List.range j).map fun k=>((bs k:Int),D.int (T k q)))) (t:Int)).getD (.int 0)= .int (SX.yv j q bs T t)
 | 0,_=>rfl
 | j+1,hinj=>by
  have ih:=znm (n:=n) (q:=q) (bs:=bs) (T:=T) (t:=t) (j:=j) fun a b ha hb=>hinj a b (by omega) (by omega)
  have e:SX.yv (j+1) q bs T t=SX.yv j q bs T t+(if bs j=t then T j q else 0):=rfl
  rw [List.range_succ,List.map_append,e]
  unfold zgt at ih ⊢
  rw [List.foldl_append,List.map_singleton,List.foldl_cons,List.foldl_nil,znR]
  by_cases h:bs j=t
  ·rw [qa4 (by simp [h]),qa4 h]
   have:SX.yv j q bs T t=0:=by
    unfold SX.yv
    refine Eq.trans (SX.zaq (g:=fun _=>0) fun k hk=> ?_) (SX.zbN j)
    rw [qa5 fun z=>absurd (hinj k j (by omega) (by omega) (z.trans h.symm)) (by omega)]
   rw [this,Int.zero_add]
   rfl
  ·rw [qa5 (by simp;omega),qa5 h,Int.add_zero]
   exact ih
noncomputable def zcS (k n:Nat) (s:SX.St):List Rat:=(List.range k).map fun t=>mkRat (SX.yv n (k+n) s.bs s.T t) s.d.toNat
noncomputable def zcQ (k n:Nat) (s:SX.St):List Rat:=(List.range n).map fun j=>mkRat (s.T n (k+j)) s.d.toNat
theorem zne {a d:Int} (d0:0<d) (d1:d.natAbs<=2^29):F_0 [.int a,.int d]=pure (qD (mkRat a d.toNat)):=by
 have:=zi6 (a:=a) (b:=d.toNat) (by omega) (qaw (show d.toNat<2^30 by omega) (zko (by decide)))
 rw [show ((d.toNat:Nat):Int)=d by omega] at this
 exact this
theorem zmz {m0:Int} (hm:0<=m0) (hm2:m0<=10) (hl:os.length<=12) (hp: ∀ o∈os,o.2.natAbs<=2^64) {s:SX.St} (v:Iv os.length m0.toNat (lpA m0.toNat os) s):
  Ev (F_25 [zca m0 os,zbl (os.length+1) (m0.toNat+os.length+1) s.T,.lst (zeo os.length s.bs),.int s.d]) (.tup ((zcS m0.toNat os.length s).map qD)):=by
 refine Ev.of_wp fun h=> ?_
 have z1:=(v.big hl hp).1
 rw [d_25]
 simp only [G_25]
 have c1:=zbx (g':=fun (k:Nat)=>D.tup [.int k,.int (s.bs k:Int)]) (fi:=zhj (zaf 2)) (g:=zbp 2 (zar (zaG 0) (zar (zaG 1) zbq))) (tc:=fun _=>pure true) (te:=zbS) (src:=[none,none,some 1]) (sd:=[some (zca m0 os),some (zbl (os.length+1) (m0.toNat+os.length+1) s.T),some (.lst (zeo os.length s.bs)),some (.int s.d),none]) (xs:=List.range os.length)
  (k:=fun k=>some (.tup [.int (s.bs k:Int),.int (s.T k (m0.toNat+os.length))])) (by
    rw [zjz]
    ac_nf0
    unfold zeo
    rw [zkS]) (by rw [List.length_range];omega) fun k hk=>by
   have hk:=List.mem_range.mp hk
   obtain ⟨i1,_,i3⟩:=ix2 (n:=os.length) (q:=m0.toNat+os.length) (T:=s.T) (k:=k) (x:=0) (by omega) (by omega)
   simp only [zbc,zbS]
   rw [show zak [none,none,some 1] [some (zca m0 os),some (zbl (os.length+1) (m0.toNat+os.length+1) s.T),some (.lst (zeo os.length s.bs)),some (.int s.d),none]=[none,none,some (zbl (os.length+1) (m0.toNat+os.length+1) s.T)] from rfl]
   ac_nf0
   rw [i1]
   ac_nf0
   rw [i3]
   ac_nf0
 rw [List.filterMap_eq_map'] at c1
 ac_nf0
 rw [c1]
 ac_nf0
 have ed:zn8 [.lst ((List.range os.length).map fun k=> .tup [.int (s.bs k:Int),.int (s.T k (m0.toNat+os.length))])]=zin (zgt ((List.range os.length).map fun k=>((s.bs k:Int),D.int (s.T k (m0.toNat+os.length))))):=by
  show (do let ps<-ofO (prs _);zin (zgt ps):M D)=_
  rw [zkG (f:=fun k=>((s.bs k:Int),D.int (s.T k (m0.toNat+os.length))))]
  rfl
 rw [ed]
 refine zk1 ?_
 generalize hkv:zgt ((List.range os.length).map fun k=>((s.bs k:Int),D.int (s.T k (m0.toNat+os.length))))=kvs
 have e0:(h++[C.dic kvs])[h.length]? = some (.dic kvs):=by simp
 unfold zaK
 ac_nf0
 rw [zoo]
 ac_nf0
 rw [show zht [.int m0]=pure ((List.range m0.toNat).map fun (k:Nat)=>D.int (k:Int)) by
   have:=zhM (n:=m0.toNat) (by omega)
   rw [show ((m0.toNat:Nat):Int)=m0 by omega] at this
   exact this]
 ac_nf0
 rw [List.length_range,zaJ (by omega)]
 rw [show zak [none,some 4,some 3] [some (zca m0 os),some (zbl (os.length+1) (m0.toNat+os.length+1) s.T),some (.lst (zeo os.length s.bs)),some (.int s.d),some (.cel h.length)]=[none,some (.cel h.length),some (.int s.d)] from rfl]
 ac_nf0
 refine zp4 (g':=fun (x:Nat)=>D.int (x:Int)) (k:=fun t=>some (qD (mkRat (SX.yv os.length (m0.toNat+os.length) s.bs s.T t) s.d.toNat))) (fun t ht=> ?_) ?_
 ·have eg:=znm (n:=os.length) (q:=m0.toNat+os.length) (bs:=s.bs) (T:=s.T) (t:=t) (j:=os.length) fun a b ha hb e=>v.tb.inj ha hb e
  rw [hkv] at eg
  simp only [zbc,zcL]
  ac_nf0
  simp only [zoj]
  ac_nf0
  refine zkH e0 ?_
  ac_nf0
  refine zrg e0 ?_
  rw [eg]
  ac_nf0
  rw [zne v.tb.dp z1]
  ac_nf0
  exact ⟨trivial,trivial⟩
 ·ac_nf0
  rw [List.filterMap_eq_map']
  unfold zcS
  rw [qaT]
  first | exact ⟨rfl,⟨_,rfl⟩⟩ | exact ⟨⟨_,rfl⟩,rfl⟩
theorem zll {m0:Int} (hm:0<=m0) (hm2:m0<=10) (hl:os.length<=12) (hp: ∀ o∈os,o.2.natAbs<=2^64) {s:SX.St} (v:Iv os.length m0.toNat (lpA m0.toNat os) s):
  F_26 [zca m0 os,zbl (os.length+1) (m0.toNat+os.length+1) s.T,.int s.d]=pure (.tup ((zcQ m0.toNat os.length s).map qD)):=by
 have z1:=(v.big hl hp).1
 have i0:dIx (zbl (os.length+1) (m0.toNat+os.length+1) s.T) (.int (-1))=pure (zbM (m0.toNat+os.length+1) (s.T os.length)):=by
  unfold zbl
  rw [zeP,zhO (f:=fun j=>zbM (m0.toNat+os.length+1) (s.T j))]
  rfl
 have c1:=zbx (g':=fun (k:Nat)=>D.int (k:Int)) (fi:=ze4 (zac (zaT zeW (zac (cOp dIx (zaf 0) (cK (.int 1))) zav)) zav)) (g:=zaG 0) (tc:=fun _=>pure true) (te:=zbQ) (src:=[none,some 1,some 0,some 2]) (sd:=[some (zca m0 os),some (zbl (os.length+1) (m0.toNat+os.length+1) s.T),some (.int s.d)]) (xs:=List.range os.length)
  (k:=fun j=>some (qD (mkRat (s.T os.length (m0.toNat+j)) s.d.toNat))) (by
    ac_nf0
    rw [zlM]
    ac_nf0
    rw [zhM (by omega)]) (by rw [List.length_range];omega) fun j hj=>by
   have hj:=List.mem_range.mp hj
   obtain ⟨_,i2,_⟩:=ix2 (n:=os.length) (q:=m0.toNat+os.length) (T:=s.T) (k:=os.length) (x:=m0.toNat+j) (by omega) (by omega)
   rw [show ((m0.toNat+j:Nat):Int)=m0+(j:Int) by omega] at i2
   simp only [zbc,zbQ]
   rw [show zak [none,some 1,some 0,some 2] [some (zca m0 os),some (zbl (os.length+1) (m0.toNat+os.length+1) s.T),some (.int s.d)]=[none,some (zbl (os.length+1) (m0.toNat+os.length+1) s.T),some (zca m0 os),some (.int s.d)] from rfl]
   ac_nf0
   rw [i0]
   ac_nf0
   rw [zoo]
   ac_nf0
   rw [i2]
   ac_nf0
   rw [zne v.tb.dp z1]
   ac_nf0
 rw [List.filterMap_eq_map'] at c1
 rw [d_26]
 simp only [G_26]
 ac_nf0
 rw [c1]
 ac_nf0
 unfold zcQ
 rw [qaT]
 rfl
theorem zfV: ∀ (xs:List Rat) (a:Rat),xs.foldl (· + ·) a=a+xs.foldl (· + ·) 0
 | [],a=>by rw [List.foldl_nil,List.foldl_nil,Rat.add_zero]
 | x::r,a=>by
  rw [List.foldl_cons,List.foldl_cons,zfV r (a+x),zfV r (0+x),Rat.zero_add,Rat.add_assoc]
theorem zkk:qs []=0:=rfl
theorem zhI (x:Rat) (r:List Rat):qs (x::r)=x+qs r:=by
 unfold qs
 rw [List.foldl_cons,Rat.zero_add,zfV]
theorem zhG (a b:Int) {n:Nat} (hn:n≠0):mkRat a n+mkRat b n=mkRat (a+b) n:=by
 have e:=Rat.mkRat_add_mkRat a b hn hn
 rw [e, <-Int.add_mul,Rat.mkRat_mul_right hn]
theorem znY {α:Type} (g:α->Int) {n:Nat} (hn:n≠0): ∀ l:List α,qs (l.map fun x=>mkRat (g x) n)=mkRat (l.map g).sum n
 | []=>by
  show qs []=mkRat 0 n
  rw [zkk,Rat.zero_mkRat]
 | x::l=>by rw [qaM,zhI,znY g hn l,zhG _ _ hn,qaM,List.sum_cons]
theorem zfu (N:Int) {d:Nat} (hd:0<d): ∃ g:Nat,0<g/\N=(mkRat N d).num*(g:Int)/\(d:Int)=((mkRat N d).den:Int)*(g:Int):=by
 refine ⟨Nat.gcd d N.natAbs,Nat.gcd_pos_of_pos_left _ hd,?_,?_⟩
 ·rw [Rat.num_mkRat,qa5 (by omega)]
  exact (Int.ediv_mul_cancel (Int.ofNat_dvd_left.mpr (Nat.gcd_dvd_right _ _))).symm
 ·rw [Rat.den_mkRat,qa5 (by omega)]
  have:=Nat.div_mul_cancel (Nat.gcd_dvd_left d N.natAbs)
  exact_mod_cast this.symm
theorem zt7 {N p:Int} {d:Nat} (hd:0<d) (h:N<=(d:Int)*p): ¬p*((mkRat N d).den:Int)<(mkRat N d).num:=by
 obtain ⟨g,g0,e1,e2⟩:=zfu N hd
 intro z
 have:=Int.mul_lt_mul_of_pos_right z (show (0:Int)<(g:Int) by omega)
 rw [Int.mul_assoc, <-e1, <-e2,Int.mul_comm p] at this
 omega
theorem ztT {N:Int} {d:Nat} (hd:0<d) (h:(d:Int)<=N): ¬(mkRat N d).num<((mkRat N d).den:Int):=by
 obtain ⟨g,g0,e1,e2⟩:=zfu N hd
 intro z
 have:=Int.mul_lt_mul_of_pos_right z (show (0:Int)<(g:Int) by omega)
 rw [<- e1, <-e2] at this
 omega
theorem zp5 {N:Int} {d:Nat} (hd:0<d) (h:0<=N):0<=mkRat N d:=by
 rw [<- Rat.num_nonneg]
 obtain ⟨g,g0,e1,e2⟩:=zfu N hd
 rcases Int.lt_or_le (mkRat N d).num 0 with z | z
 ·have:=Int.mul_neg_of_neg_of_pos z (show (0:Int)<(g:Int) by omega)
  omega
 ·exact z
theorem zqE (D:Nat): ∀ rs:List Rat,(∀ r∈rs,r.den<=D)->dp rs<=D^rs.length
 | [],_=>qaV _
 | r::rs,h=>by
  show r.den*dp rs<=D^(rs.length+1)
  rw [Nat.pow_succ,Nat.mul_comm (D^rs.length)]
  exact Nat.mul_le_mul (h r qau) (zqE D rs fun x hx=>h x (qan _ hx))
theorem zjM {f:Nat->Int} {k:Nat}: ∀ {ts:List Int},ts.Nodup->(∀ t∈ts,0<=t/\t<(k:Int))->(ts.map fun t=>f t.toNat).sum=SX.sm k fun x=>(if ts.any (· == (x:Int))=true then 1 else 0)*f x
 | [],_,_=>by
  refine (Eq.trans (SX.zaq (g:=fun _=>0) fun x _=> ?_) (SX.zbN k)).symm
  simp
 | t::ts,hn,hb=>by
  obtain ⟨h1,h2⟩:=List.nodup_cons.mp hn
  have ih:=zjM (f:=f) h2 fun x hx=>hb x (qan _ hx)
  have ht:=hb t qau
  have eu:=SX.zhm (n:=k) (f:=f) (i:=t.toNat) (by omega)
  rw [qaM,List.sum_cons,ih, <-eu, <-SX.zgd]
  refine SX.zaq fun x hx=> ?_
  rw [List.any_cons]
  by_cases hx2:t.toNat=x
  ·have e:t=(x:Int):=by omega
   have hno:ts.any (· == (x:Int))=false:=by
    rw [Bool.eq_false_iff]
    intro z
    exact h1 (e▸zei.mp z)
   rw [hno,show (t==(x:Int))=true from beq_iff_eq.mpr e,qa4 hx2]
   simp
  ·rw [show (t==(x:Int))=false from beq_eq_false_iff_ne.mpr (by omega),qa5 hx2,Bool.false_or]
   omega
theorem zfR (f:Nat->Int): ∀ n,SX.sm (n+1) f=f 0+SX.sm n fun i=>f (i+1)
 | 0=>by simp [SX.sm]
 | n+1=>by rw [SX.sm,zfR f n,SX.sm];omega
theorem zig {α:Type} (f:Nat->α) (n:Nat):(List.range (n+1)).map f=f 0::(List.range n).map fun i=>f (i+1):=by
 rw [List.range_succ_eq_map,qaM,qaT]
 rfl
theorem zmL (t:Int) {n:Nat} (hn:n≠0): ∀ (os:List (List Int×Int)) (f:Nat->Int),qs (sl t os ((List.range os.length).map fun i=>mkRat (f i) n))=mkRat (SX.sm os.length fun i=>(if (os.getD i ([],0)).1.any (· == t)=true then 1 else 0)*f i) n
 | [],f=>by
  show qs []=mkRat 0 n
  rw [zkk,Rat.zero_mkRat]
 | o::os,f=>by
  have ih:=zmL t hn os fun i=>f (i+1)
  rw [qaE,zig,zfR]
  unfold sl at ih ⊢
  rw [List.zip_cons_cons,List.filter_cons]
  have e0:(o::os).getD 0 ([],0)=o:=rfl
  have e1: ∀ i,(o::os).getD (i+1) ([],0)=os.getD i ([],0):=fun _=>rfl
  simp only [e0,e1]
  cases h:o.1.any (· == t) with
  | true=>
   rw [qa4 rfl,qa4 rfl,qaM,zhI,ih,zhG _ _ hn,Int.one_mul]
  | false=>
   simp only [qax,if_false,Int.zero_mul,Int.zero_add]
   exact ih
theorem zqu {n:Nat} (hn:n≠0): ∀ (os:List (List Int×Int)) (f:Nat->Int),qs ((pr os ((List.range os.length).map fun i=>mkRat (f i) n)).map rq)=mkRat (SX.sm os.length fun i=>(os.getD i ([],0)).2*f i) n
 | [],f=>by
  show qs []=mkRat 0 n
  rw [zkk,Rat.zero_mkRat]
 | o::os,f=>by
  have ih:=zqu hn os fun i=>f (i+1)
  rw [qaE,zig,zfR]
  unfold pr at ih ⊢
  rw [List.zip_cons_cons,qaM,qaM,zhI,ih]
  have e0:(o::os).getD 0 ([],0)=o:=rfl
  have e1: ∀ i,(o::os).getD (i+1) ([],0)=os.getD i ([],0):=fun _=>rfl
  simp only [e0,e1]
  rw [<- zhG _ _ hn]
  congr 1
  unfold rq
  have h1:=Rat.mkRat_mul_mkRat (mkRat (f 0) n).num o.2 (mkRat (f 0) n).den 1
  rw [Rat.mkRat_self,Nat.mul_one,Rat.mkRat_mul_mkRat,Nat.mul_one] at h1
  rw [Int.mul_comm, <-h1,Int.mul_comm]
variable {s0:SX.St}
structure zjf (m:Int) (os:List (List Int×Int)) (s0:SX.St):Prop where
 iv:Iv os.length m.toNat (lpA m.toNat os) s0
 ok: ∀ x,x<m.toNat+os.length->0<=s0.T os.length x
theorem zjf.dn (w:zjf m os s0):0<s0.d.toNat:=by have:=w.iv.tb.dp;omega
theorem zji (s:Stk m os) (hp: ∀ o∈os,o.2.natAbs<=2^64) (w:zjf m os s0) {rs:List Rat} {k:Nat} {f:Nat->Int} (hk:k<=12) (er:rs=(List.range k).map fun j=>mkRat (f j) s0.d.toNat) (hf: ∀ j,j<k->(f j).natAbs<=2^1000):gt (.tup (rs.map qD))/\Rz rs:=by
 have hd:=(w.iv.big s.len hp).1
 have dn:=w.dn
 have hden: ∀ r∈rs,r.den<=2^29:=fun r hr=>by
  rw [er] at hr
  obtain ⟨j,_,rfl⟩:=qaU.mp hr
  have:=ziw (f j) dn
  omega
 have hnum: ∀ r∈rs,r.num.natAbs<=2^1000:=fun r hr=>by
  rw [er] at hr
  obtain ⟨j,hj,rfl⟩:=qaU.mp hr
  exact qaS (zhR (f j) dn) (hf j (List.mem_range.mp hj))
 have hlen:rs.length=k:=by rw [er];simp
 have hdp:dp rs<=2^348:=by
  have h1:=zqE (2^29) rs hden
  rw [hlen, <-Nat.pow_mul] at h1
  exact qaS h1 (Nat.pow_le_pow_right (by decide) (by omega))
 refine ⟨zso (by omega) (qaS hdp (Nat.pow_le_pow_right (by decide) (by decide))) fun r hr=>⟨qaS (hnum r hr) (Nat.pow_le_pow_right (by decide) (by decide)),qaS (hden r hr) (Nat.pow_le_pow_right (by decide) (by decide))⟩,⟨qaS hdp (Nat.pow_le_pow_right (by decide) (by decide)),by omega,fun r hr=>qaS (hnum r hr) (Nat.pow_le_pow_right (by decide) (by decide))⟩⟩
theorem zqW (s:Stk m os) (hp: ∀ o∈os,o.2.natAbs<=2^64) (w:zjf m os s0) (x:Nat):(SX.yv os.length (m.toNat+os.length) s0.bs s0.T x).natAbs<=2^1000:=by
 have hb:=(w.iv.big s.len hp).2
 have h1:(SX.yv os.length (m.toNat+os.length) s0.bs s0.T x).natAbs<=os.length*2^900:=zkw fun j hj=>by
  split
  ·exact hb j (by omega) _ (by omega)
  ·exact Nat.zero_le _
 have h2:os.length*2^900<=12*2^900:=Nat.mul_le_mul_right _ s.len
 exact qaS h1 (qaS h2 (by decide +kernel))
theorem zmj (s:Stk m os) (hp: ∀ o∈os,o.2.natAbs<=2^64) (w:zjf m os s0):gt (.tup ((zcS m.toNat os.length s0).map qD))/\Rz (zcS m.toNat os.length s0):=
 zji s hp w (by have:=s.m1;omega) rfl fun j _=>zqW s hp w j
theorem zms (s:Stk m os) (hp: ∀ o∈os,o.2.natAbs<=2^64) (w:zjf m os s0):gt (.tup ((zcQ m.toNat os.length s0).map qD))/\Rz (zcQ m.toNat os.length s0):=
 zji s hp w s.len rfl fun j hj=>qaS ((w.iv.big s.len hp).2 os.length (by omega) _ (by omega)) (Nat.pow_le_pow_right (by decide) (by decide))
theorem zr9 (w:zjf m os s0):((s0.d.toNat:Nat):Int)=s0.d:=by have:=w.iv.tb.dp;omega
theorem zpi (s:Stk m os) (p:SX.LP os.length m.toNat (lpA m.toNat os)) (w:zjf m os s0):zoE m os (.tup ((zcS m.toNat os.length s0).map qD))=true:=by
 have m0:=s.m0
 have dn:=w.dn
 obtain ⟨d1,_,_,_⟩:=p.done w.iv.tb w.iv.vr w.iv.fe w.ok
 show ((((zcS m.toNat os.length s0).map qD).length:Int)==m && ((zcS m.toNat os.length s0).map qD).all pS && os.all (bB (((zcS m.toNat os.length s0).map qD).map zdQ)))=true
 have hlen:(zcS m.toNat os.length s0).length=m.toNat:=by unfold zcS;simp
 rw [zla,qaG,qaG,beq_iff_eq,qaH,hlen]
 refine ⟨⟨by omega,List.all_eq_true.mpr fun d hd=> ?_⟩,List.all_eq_true.mpr fun o ho=> ?_⟩
 ·obtain ⟨r,hr,rfl⟩:=qaU.mp hd
  obtain ⟨t,_,rfl⟩:=qaU.mp hr
  exact zum (zp5 dn (SX.zun w.iv.fe t))
 ·obtain ⟨i,hi,e⟩:=List.getElem_of_mem ho
  have eo:os.getD i ([],0)=o:=by simp [List.getD,hi,e]
  have hb:=s.bd o ho
  have e1:pk (zcS m.toNat os.length s0) o.1=o.1.map fun t=>mkRat (SX.yv os.length (m.toNat+os.length) s0.bs s0.T t.toNat) s0.d.toNat:=by
   unfold pk zcS
   refine List.map_congr_left fun t ht=> ?_
   have:=hb t ht
   simp [List.getD,show t.toNat<m.toNat by omega]
  have hsum:=zjM (f:=SX.yv os.length (m.toNat+os.length) s0.bs s0.T) (k:=m.toNat) (ts:=o.1) ((s.up o ho).imp fun h=>by omega) (fun t ht=>by have:=hb t ht;omega)
  have h1:=d1 i hi
  have e2:(SX.sm m.toNat fun x=>lpA m.toNat os i x*SX.yv os.length (m.toNat+os.length) s0.bs s0.T x)=SX.sm m.toNat fun x=>(if o.1.any (· == (x:Int))=true then 1 else 0)*SX.yv os.length (m.toNat+os.length) s0.bs s0.T x:=SX.zaq fun x hx=>by
   unfold lpA
   rw [qa4 hi,qa4 hx,eo]
  have e3:lpA m.toNat os i (m.toNat+os.length)=o.2:=by
   unfold lpA
   rw [qa4 hi,qa5 (by omega),qa5 (by omega),eo]
  rw [e2,e3, <-hsum, <-zr9 w] at h1
  unfold bB
  rw [e1,znY (fun t:Int=>SX.yv os.length (m.toNat+os.length) s0.bs s0.T t.toNat) (by omega),Bool.not_eq_true',decide_eq_false_iff_not]
  exact zt7 dn h1
theorem zon (s:Stk m os) (p:SX.LP os.length m.toNat (lpA m.toNat os)) (w:zjf m os s0):ztN m os (.tup ((zcQ m.toNat os.length s0).map qD))=true:=by
 have m0:=s.m0
 have dn:=w.dn
 obtain ⟨_,_,d3,_⟩:=p.done w.iv.tb w.iv.vr w.iv.fe w.ok
 show ((((zcQ m.toNat os.length s0).map qD).length:Int)==(os.length:Int) && ((zcQ m.toNat os.length s0).map qD).all pS && (tsI m).all (sB os (((zcQ m.toNat os.length s0).map qD).map zdQ)))=true
 have hlen:(zcQ m.toNat os.length s0).length=os.length:=by unfold zcQ;simp
 rw [zla,qaG,qaG,beq_iff_eq,qaH,hlen]
 refine ⟨⟨rfl,List.all_eq_true.mpr fun d hd=> ?_⟩,List.all_eq_true.mpr fun t ht=> ?_⟩
 ·obtain ⟨r,hr,rfl⟩:=qaU.mp hd
  obtain ⟨t,ht,rfl⟩:=qaU.mp hr
  have ht:=List.mem_range.mp ht
  exact zum (zp5 dn (w.ok _ (by omega)))
 ·obtain ⟨x,hx,rfl⟩:=qaU.mp ht
  have hx:=List.mem_range.mp hx
  have h1:=d3 x hx
  have e2:(SX.sm os.length fun i=>lpA m.toNat os i x*s0.T os.length (m.toNat+i))=SX.sm os.length fun i=>(if (os.getD i ([],0)).1.any (· == (x:Int))=true then 1 else 0)*s0.T os.length (m.toNat+i):=SX.zaq fun i hi=>by
   unfold lpA
   rw [qa4 hi,qa4 hx]
  rw [e2, <-zr9 w] at h1
  unfold sB zcQ
  rw [zmL (x:Int) (by omega) os (fun j=>s0.T os.length (m.toNat+j)),Bool.not_eq_true',decide_eq_false_iff_not]
  exact ztT dn h1
theorem ziK (s:Stk m os) (p:SX.LP os.length m.toNat (lpA m.toNat os)) (w:zjf m os s0):qs (zcS m.toNat os.length s0)=qs ((pr os (zcQ m.toNat os.length s0)).map rq):=by
 have dn:=w.dn
 obtain ⟨_,d2,_,d4⟩:=p.done w.iv.tb w.iv.vr w.iv.fe w.ok
 have e1:qs (zcS m.toNat os.length s0)=mkRat (s0.T os.length (m.toNat+os.length)) s0.d.toNat:=by
  unfold zcS
  rw [znY (fun t:Nat=>SX.yv os.length (m.toNat+os.length) s0.bs s0.T t) (by omega), <-d2]
  congr 1
  have: ∀ k (f:Nat->Int),((List.range k).map f).sum=SX.sm k f:=by
   intro k f
   induction k with
   | zero=>rfl
   | succ k ih=>rw [List.range_succ,List.map_append,List.sum_append,ih,SX.sm];simp
  exact this _ _
 have e2:(SX.sm os.length fun i=>(os.getD i ([],0)).2*s0.T os.length (m.toNat+i))=s0.T os.length (m.toNat+os.length):=by
  rw [<- d4]
  refine SX.zaq fun i hi=> ?_
  unfold lpA
  rw [qa4 hi,qa5 (by omega),qa5 (by omega)]
 rw [e1]
 unfold zcQ
 rw [zqu (by omega) os (fun j=>s0.T os.length (m.toNat+j)),e2]
theorem ztu:F_31 [.exn "NotFull"]=pure (.str "! full"):=by
 funext h
 rfl
theorem zs2 (q:Rat):dNe (qD q) (qD q)=pure (.bl false):=by
 have:=zra [q.num,(q.den:Int)] [q.num,(q.den:Int)]
 rw [beq_self_eq_true] at this
 exact this
theorem zmK:PyData.strOk "! full"=true:=by decide +kernel
theorem znU (rs ss:List Rat):dNe (.tup [.tup (rs.map qD),.tup (ss.map qD)]) (.tup [.tup (rs.map qD),.tup (ss.map qD)])=pure (.bl false):=by
 obtain ⟨a1,a2,a3⟩:=zoe rs
 obtain ⟨b1,b2,b3⟩:=zoe ss
 have e1:=zoB (f:=qD) (fun _=>rfl) rs
 have e2:=zoB (f:=qD) (fun _=>rfl) ss
 generalize rs.map (fun r=>PyData.tuple [.int r.num,.int (r.den:Int)])=u at a1 a2 a3 e1
 generalize ss.map (fun r=>PyData.tuple [.int r.num,.int (r.den:Int)])=v at b1 b2 b3 e2
 have e:pd (.tup [.tup (rs.map qD),.tup (ss.map qD)])=some (.tuple [.tuple u,.tuple v]):=by
  simp [pd,pdL,e1,e2]
 rw [zkj e e (by
   unfold zf4
   rw [qaG,qaG,qaD]
   refine ⟨⟨by simp [PyData.canLay0,PyData.canLayAll0,a1,b1],by simp [PyData.canLay0,PyData.canLayAll0,a1,b1]⟩,?_⟩
   simp only [PyData.depth,PyData.depthAll]
   omega)]
 simp [PyData.eqv,PyData.eqvAll,a3,b3]
theorem zme {m0:Int} (hm:0<=m0) (hl:os.length<=100) {sd:Sd} {src:List (Option Nat)} {fi:FA} (hi:fi sd=pure ((List.range os.length).map fun (k:Nat)=>D.int (k:Int))) (eb:zak src sd=[none,some (zca m0 os)]):zfj fi (zaG 0) (fun _=>pure true) zcd src sd=zbn (zeo os.length fun k=>m0.toNat+k):=by
 unfold zfj
 rw [hi]
 simp only [pure_bind]
 rw [zaJ (by simp;omega),eb]
 simp only [pure_bind]
 have: ∀ ks:List Nat,zbj (zbc (zaG 0) (fun _=>pure true) zcd [none,some (zca m0 os)]) (ks.map fun (k:Nat)=>D.int (k:Int))=pure (ks.map fun (k:Nat)=>D.int ((m0.toNat+k:Nat):Int)):=by
  intro ks
  induction ks with
  | nil=>rfl
  | cons k ks ih=>
   rw [qaM,zbj,ih]
   simp only [zbc,zcd]
   ac_nf0
   rw [zoo]
   ac_nf0
   rw [qaM]
   congr 3
   omega
 rw [this]
 rfl
theorem zp7 {a b:Nat} (ha:a<=22) (hb:b<=12):a^b<100000000000000000:=by
 have h1:a^b<=22^b:=Nat.pow_le_pow_left ha b
 have h2:22^b<=22^12:=Nat.pow_le_pow_right (by decide) hb
 have h3:22^12<100000000000000000:=by decide +kernel
 omega
theorem zqc (s:Stk m os) (hf:zi9 m os=true) (hp: ∀ o∈os,o.2.natAbs<=2^64): ∃ s0,zjf m os s0/\Ev (F_18 [zca m os]) (.tup [.tup ((zcS m.toNat os.length s0).map qD),.tup ((zcQ m.toNat os.length s0).map qD)]):=by
 have m0:=s.m0
 have m1:=s.m1
 have ml:=s.len
 have p:=zp2 s hf
 have v:Iv os.length m.toNat (lpA m.toNat os) ⟨fun k=>m.toNat+k,lpA m.toNat os,1⟩:=⟨p.first,fun k hk=>by show m.toNat+k<_;omega,p.rhs⟩
 generalize hs:(⟨fun k=>m.toNat+k,lpA m.toNat os,1⟩:SX.St)=st at v
 have hT:st.T=lpA m.toNat os:=by rw [<- hs]
 have hB:st.bs=fun k=>m.toNat+k:=by rw [<- hs]
 have hD:st.d=1:=by rw [<- hs]
 obtain ⟨L,hL1,hL2,hL3⟩:=v.ends p
 have fw:zjf m os (sts os.length (m.toNat+os.length) st L):=⟨Iv.all p v L,zmr hL2⟩
 refine ⟨_,fw,Ev.of_wp fun h=> ?_⟩
 have ef:=zmc s
 rw [<- hT] at ef
 have en:=ziu (n:=os.length) (q:=m.toNat+os.length) (T:=st.T) (by omega)
 have hfuel:L<100000000000000000:=Nat.lt_of_le_of_lt hL1 (zp7 (by omega) ml)
 have lp:= @zh5 os m.toNat ml (by omega) hp p st v
 have bt:=zmz (m0:=m) (by omega) m1 ml hp fw.iv
 have sk:=zll (m0:=m) (by omega) m1 ml hp fw.iv
 generalize hq:m.toNat+os.length+1=cn at ef en lp bt sk
 rw [d_18]
 simp only [G_18]
 generalize (100000000000000000:Nat)=fuel at hfuel
 ac_nf0
 refine (zpd s hf).wp fun h1 g1=> ?_
 ac_nf0
 refine ef.noX.wp fun h2 g2=> ?_
 ac_nf0
 have bc:=zme (os:=os) (m0:=m) (by omega) (by omega) (sd:=[some (zca m os),some (zbl (os.length+1) cn st.T),none,none,none,none]) (src:=[none,some 0]) (fi:=ze4 (zac (zaT zeW (zac (cOp dIx (zaf 0) (cK (.int 1))) zav)) zav)) (by
   ac_nf0
   rw [zlM]
   ac_nf0
   rw [zhM (by omega)]) rfl
 rw [bc]
 refine znt ?_
 ac_nf0
 rw [en]
 ac_nf0
 have e0:(h2++[C.lst (zeo os.length st.bs)])[h2.length]? = some (.lst (zeo os.length st.bs)):=by simp
 rw [hB] at e0
 refine znt ?_
 have lq:= @lp h2.length L (some (zca m os)) hL2 hL3 L 0 fuel (h2++[C.lst (zeo os.length fun k=>m.toNat+k)]) none
 rw [show sts os.length (m.toNat+os.length) st 0=st from rfl,hD,hB] at lq
 refine lq (by omega) hfuel e0 fun y5=> ?_
 clear lq lp
 generalize sts os.length (m.toNat+os.length) st L=s1 at bt sk ⊢
 have e1:((h2++[C.lst (zeo os.length fun k=>m.toNat+k)]).set h2.length (.lst (zeo os.length s1.bs)))[h2.length]? = some (.lst (zeo os.length s1.bs)):=qai (by simp)
 have hk:Kp h2.length h2 ((h2++[C.lst (zeo os.length fun k=>m.toNat+k)]).set h2.length (.lst (zeo os.length s1.bs))):=by
  refine ⟨by simp,fun k hk=> ?_⟩
  rw [qao (by omega),qad hk]
 generalize (h2++[C.lst (zeo os.length fun k=>m.toNat+k)]).set h2.length (.lst (zeo os.length s1.bs))=h3 at e1 hk ⊢
 ac_nf0
 refine zmN e1 ?_
 refine bt.noX.wp fun h4 g4=> ?_
 rw [sk]
 ac_nf0
 have gg:Gro h2 (h3.set h2.length .dead):=Kp.gro ⟨by rw [qaI];exact hk.1,fun k hkk=>by
   rw [qao (by omega)]
   exact hk.2 k hkk⟩
 have gf:Gro h h4:=((g1.trans g2).trans gg).trans g4
 first | exact gf | exact ⟨gf,trivial⟩ | exact ⟨trivial,gf⟩ | exact ⟨rfl,gf⟩ | exact ⟨gf,rfl⟩
theorem zrV (s:Stk m os) (hf:zi9 m os=false):EvX (F_18 [zca m os]) "NotFull":=by
 rw [d_18]
 simp only [G_18]
 generalize (100000000000000000:Nat)=fuel
 ac_nf0
 exact EvX.left (zpa s hf)
theorem zsc {d:D} (h:Ev (F_18 [zca m os]) d):Ev (F_40 [zca m os]) d:=by
 rw [d_40]
 simp only [G_40]
 refine Ev.bind (zoy (o:= .rt d) ?_) (.of (by ac_nf0))
 ac_nf0
 exact Ev.bind h (.of rfl)
theorem zpR (s:Stk m os) (hf:zi9 m os=false):Ev (F_40 [zca m os]) (.str "! full"):=by
 rw [d_40]
 simp only [G_40]
 refine Ev.bind (zl6 (c:="NotFull") (d:= .str "! full") ?_ rfl ztu) (.of (by ac_nf0))
 ac_nf0
 exact EvX.left (zrV s hf)
theorem zh6 {ns:List Int}: ∀ (ds:List D) {h:Hh} {x1 x2 x3 x4 x5:Option D},(∀ d∈ds, ∃ i:Int,d= .int i/\0<=i/\i<5)->
  wp (za1 (fun x sd=>zeD (List.set sd 1 (some x))) ds [some (.scr (ns.map D.int)),x1,x2,x3,x4,x5]) h fun o _=> ∃ sd,o= .nx sd
 | [],h,x1,x2,x3,x4,x5,_=>by rw [zdq,zan];exact ⟨_,rfl⟩
 | d::r,h,x1,x2,x3,x4,x5,hd=>by
  obtain ⟨i,rfl,i0,i1⟩:=hd _ qau
  have ih: ∀ {h:Hh} {x1 x2 x3 x4 x5:Option D},wp (za1 (fun x sd=>zeD (List.set sd 1 (some x))) r [some (.scr (ns.map D.int)),x1,x2,x3,x4,x5]) h fun o _=> ∃ sd,o= .nx sd:=zh6 r fun y hy=>hd y (qan _ hy)
  rw [zcj]
  generalize za1 (fun x sd=>zeD (List.set sd 1 (some x))) r=rest at ih ⊢
  simp only [zeD]
  ac_nf0
  refine zqb i0 i1 fun z=> ?_
  have qb:Bx h.length (h++[.lst [.int z]]):=⟨z,by simp⟩
  generalize h.length=b at qb ⊢
  generalize h++[.lst [.int z]]=h1 at qb ⊢
  ac_nf0
  refine zoN (by decide) (by decide) qb fun m ods h2 q2 m0 m1 l0 l1 ho hc=> ?_
  obtain ⟨os,rfl,s,hp⟩:=zmS m0 m1 l1 ho
  have hful:=zq1 s hc
  have hpa: ∀ o∈os,o.2.natAbs<=2^64:=fun o ho=>by
   have:=s.pos o ho
   have:=hp o ho
   omega
  obtain ⟨s0,w,ev⟩:=zqc s hful hpa
  have p:=zp2 s hful
  obtain ⟨g1,z1⟩:=zmj s hpa w
  obtain ⟨g2,z2⟩:=zms s hpa w
  have b1:=zmb s hp g1
  rw [zpi s p w] at b1
  have b2:=znB s g2
  rw [zon s p w] at b2
  have sw:=ziK s p w
  have ea:=zsc ev
  have hln:(zcQ m.toNat os.length s0).length=os.length:=by unfold zcQ;simp
  generalize zcS m.toNat os.length s0=rs at g1 z1 b1 sw ea
  generalize zcQ m.toNat os.length s0=ss at g2 z2 b2 sw ea hln
  have e1:=zhC z1 (d:= .tup (rs.map qD)) rfl
  have e2:=zrc (zuM z2 hpa) (d:= .lst (((pr os ss).map rq).map qD)) (by rw [zpN];rfl)
  rw [zox, <-sw] at e2
  show wp _ h2 _
  rw [show D.tup [.int m,.tup (os.map zb8)]=zca m os from rfl]
  refine ea.wp fun h3 g3=> ?_
  have it:zhk "tuple" (.tup [.tup (rs.map qD),.tup (ss.map qD)])=pure (.bl true):=ziq rfl
  have ec:=znL (fi:=znO (zac (cOp dIx (zaf 4) (cK (.int 1))) (zac (cOp dIx (zaf 3) (cK (.int 1))) zav))) (sd:=[some (.scr (ns.map D.int)),some (.int i),some (.cel b),some (zca m os),some (.tup [.tup (rs.map qD),.tup (ss.map qD)]),x5]) z2 hpa (by have:=s.len;omega) (by
    rw [zmH]
    ac_nf0
    rw [zlM]
    ac_nf0
    rw [zmQ,zoD]) rfl
  rw [it]
  ac_nf0
  rw [zrx,show (!(((0+1+1:Nat):Int)==2))=false from rfl]
  ac_nf0
  refine ea.wp fun h4 g4=> ?_
  rw [znU]
  ac_nf0
  rw [b1]
  ac_nf0
  rw [b2]
  ac_nf0
  rw [ec]
  ac_nf0
  rw [e1]
  ac_nf0
  rw [e2]
  ac_nf0
  rw [zs2]
  ac_nf0
  refine zlS s (Gro.ext q2 (g3.trans g4)).1 fun os' h5 s' hno x5'=> ?_
  refine (zpR s' (zqv s' hno)).wp fun h6 g6=> ?_
  rw [zor "! full" "! full" zmK zmK,beq_self_eq_true]
  ac_nf0
  exact ih
theorem zlr: ∀ ns:List Int,ns.length<=63-> ∃ h',F_41 [.scr (ns.map D.int)] []= .ok (.bl true) h':=by
 intro ns _
 have key:wp (F_41 [.scr (ns.map D.int)]) [] fun d _=>d= .bl true:=by
  rw [d_41]
  simp only [G_41]
  ac_nf0
  simp only [zmT]
  ac_nf0
  simp only [zsL]
  ac_nf0
  generalize hn:(if (if (4:Int)<(ns.length:Int) then (4:Int) else (ns.length:Int))>1 then (if (4:Int)<(ns.length:Int) then (4:Int) else (ns.length:Int)) else (1:Int))=n
  have n0:0<=n/\n<=5:=by
   rw [<- hn]
   split<;>split<;>omega
  rw [zdg n0.1 (by omega)]
  ac_nf0
  refine zfr (zh6 _ fun d hd=> ?_) ?_
  ·obtain ⟨i,e,i0,i1⟩:=zfx hd
   exact ⟨i,e,i0,by omega⟩
  ·rintro o h' ⟨sd,rfl⟩
   ac_nf0
 obtain ⟨d,h',e,rfl⟩:=key
 exact ⟨h',e⟩
end K33
namespace K33
open PySem PySem.Spec PyProof.Rows L2 L3
theorem zrK {l:W.OpenLaw} {w:World} {K:W.Frag} {h:Heap} {mg:Str->Option Value} {fa a_2 a_3 a_4 a_5 a_6 a_7 a_8 a_9 a_10 a_11 a_12 a_13 a_27 a_28 a_29 a_32 a_33 a_31 a_16 a_17 a_14 a_15 a_19 a_20 a_22 a_21 a_24 a_23 a_1 a_0 a_25 a_26 a_18 a_40 a_30 a_35 a_36 a_37 a_39 a_38 a_34 a_41:Addr} (X:K.In h) (G:h.Ns mainGlobals mg) (hfa:mg "law"=some (.ref fa))
  {od_41 an_41:Option Addr} {sl_41:Array (Option Value)} {oc_41 kV_41 dc_41 pm_41 cd_41 ct_41:Value}
  {d_27 d_28 d_29 d_32 d_33 d_31 d_16 d_17 d_14 d_15 d_19 d_20 d_22 d_21 d_24 d_23 d_1 d_0 d_25 d_26 d_18 d_40 d_30 d_35 d_36 d_37 d_39 d_38 d_34:FuncData}
  (f_27:Fd K "_law_cell" s_27 a_27 d_27)
  (f_28:Fd K "_law_box" s_28 a_28 d_28)
  (f_29:Fd K "_law_take" s_29 a_29 d_29)
  (f_32:Fd K "_law_things" s_32 a_32 d_32)
  (f_33:Fd K "_law_full" s_33 a_33 d_33)
  (f_31:Fd K "_law_kind" s_31 a_31 d_31)
  (f_16:Fd K "things_together" s_16 a_16 d_16)
  (f_17:Fd K "have_all" s_17 a_17 d_17)
  (f_14:Fd K "is_full" s_14 a_14 d_14)
  (f_15:Fd K "need_full" s_15 a_15 d_15)
  (f_19:Fd K "first_rows" s_19 a_19 d_19)
  (f_20:Fd K "column_to_enter" s_20 a_20 d_20)
  (f_22:Fd K "leaves_ahead" s_22 a_22 d_22)
  (f_21:Fd K "place_to_leave" s_21 a_21 d_21)
  (f_24:Fd K "swept" s_24 a_24 d_24)
  (f_23:Fd K "pivoted" s_23 a_23 d_23)
  (f_1:Fd K "greatest_divisor" s_1 a_1 d_1)
  (f_0:Fd K "reduced" s_0 a_0 d_0)
  (f_25:Fd K "bearing_told" s_25 a_25 d_25)
  (f_26:Fd K "sharing_told" s_26 a_26 d_26)
  (f_18:Fd K "balanced" s_18 a_18 d_18)
  (f_40:Fd K "_law_asked" s_40 a_40 d_40)
  (f_30:Fd K "_law_whole" s_30 a_30 d_30)
  (f_35:Fd K "_law_frac" s_35 a_35 d_35)
  (f_36:Fd K "_law_is_frac" s_36 a_36 d_36)
  (f_37:Fd K "_law_sum" s_37 a_37 d_37)
  (f_39:Fd K "_law_is_sharing" s_39 a_39 d_39)
  (f_38:Fd K "_law_is_bearing" s_38 a_38 d_38)
  (f_34:Fd K "_law_holed" s_34 a_34 d_34)
  (e_41:W.nsIn K mainGlobals "law"=some (some (.ref a_41))) (l_41:K.lookup a_41=some ⟨oc_41,od_41,.func (W.fnOf "law" "law" (zdT s_41) (zcq s_41) (zae s_41) .none kV_41 dc_41 pm_41 an_41 cd_41 ct_41),sl_41⟩) (c_41:W.codeIn K cd_41 "law"=true) (k_41:W.keepIn K (.ref a_41)=true)
  (e_2:W.nsIn K mainGlobals "CoverError"=some (some (.ref a_2)))
  (e_3:W.nsIn K mainGlobals "NoStock"=some (some (.ref a_3)))
  (e_4:W.nsIn K mainGlobals "NoOffer"=some (some (.ref a_4)))
  (e_5:W.nsIn K mainGlobals "NoThing"=some (some (.ref a_5)))
  (e_6:W.nsIn K mainGlobals "NoCover"=some (some (.ref a_6)))
  (e_7:W.nsIn K mainGlobals "NoPaper"=some (some (.ref a_7)))
  (e_8:W.nsIn K mainGlobals "NoNumber"=some (some (.ref a_8)))
  (e_9:W.nsIn K mainGlobals "NotFull"=some (some (.ref a_9)))
  (e_10:W.nsIn K mainGlobals "NotInRow"=some (some (.ref a_10)))
  (e_11:W.nsIn K mainGlobals "NoText"=some (some (.ref a_11)))
  (e_12:W.nsIn K mainGlobals "NoRow"=some (some (.ref a_12)))
  (e_13:W.nsIn K mainGlobals "TooMany"=some (some (.ref a_13)))
  (z_ValueError:W.nsIn K mainGlobals "ValueError"=some none)
  (z_abs:W.nsIn K mainGlobals "abs"=some none)
  (z_all:W.nsIn K mainGlobals "all"=some none)
  (z_bool:W.nsIn K mainGlobals "bool"=some none)
  (z_dict:W.nsIn K mainGlobals "dict"=some none)
  (z_enumerate:W.nsIn K mainGlobals "enumerate"=some none)
  (z_int:W.nsIn K mainGlobals "int"=some none)
  (z_isinstance:W.nsIn K mainGlobals "isinstance"=some none)
  (z_len:W.nsIn K mainGlobals "len"=some none)
  (z_max:W.nsIn K mainGlobals "max"=some none)
  (z_min:W.nsIn K mainGlobals "min"=some none)
  (z_range:W.nsIn K mainGlobals "range"=some none)
  (z_set:W.nsIn K mainGlobals "set"=some none)
  (z_sorted:W.nsIn K mainGlobals "sorted"=some none)
  (z_sum:W.nsIn K mainGlobals "sum"=some none)
  (z_tuple:W.nsIn K mainGlobals "tuple"=some none)
  (z_zip:W.nsIn K mainGlobals "zip"=some none)
  (x_tab:zka K a_2 [("NoStock",a_3),("NoOffer",a_4),("NoThing",a_5),("NoCover",a_6),("NoPaper",a_7),("NoNumber",a_8),("NotFull",a_9),("NotInRow",a_10),("NoText",a_11),("NoRow",a_12),("TooMany",a_13)]=true)
  : ∃ fd:FuncData,(∀ (s:Shared) (v:Value),BindsTo s fd ⟨[v],[]⟩ [("script",v)])/\ ∀ base:Heap,K.In base->base.Ns mainGlobals mg->zb6 l.prog w K mg base CX0 7 fa fd ["script"] (zb9 K 1 F_41):=by
 have e:=hfa.symm.trans (W.mg_of X G e_41)
 cases e
 have F_41:=zaU (st:=s_41) l_41 c_41 k_41
 have b_41:=F_41.binds (ps:=["script"]) fun _ _ _ _ _ _ us hl=>match us,hl with | [_],_=>rfl
 have T:Tx K mg ⟨a_2,a_3,a_4,a_5,a_6,a_7,a_8,a_9,a_10,a_11,a_12,a_13,a_27,_,a_28,_,a_29,_,a_32,_,a_33,_,a_31,_,a_16,_,a_17,_,a_14,_,a_15,_,a_19,_,a_20,_,a_22,_,a_21,_,a_24,_,a_23,_,a_1,_,a_0,_,a_25,_,a_26,_,a_18,_,a_40,_,a_30,_,a_35,_,a_36,_,a_37,_,a_39,_,a_38,_,a_34,_,fa,_⟩:=
  {g_2:=W.mg_of X G e_2,
    g_3:=W.mg_of X G e_3,
    g_4:=W.mg_of X G e_4,
    g_5:=W.mg_of X G e_5,
    g_6:=W.mg_of X G e_6,
    g_7:=W.mg_of X G e_7,
    g_8:=W.mg_of X G e_8,
    g_9:=W.mg_of X G e_9,
    g_10:=W.mg_of X G e_10,
    g_11:=W.mg_of X G e_11,
    g_12:=W.mg_of X G e_12,
    g_13:=W.mg_of X G e_13,
    k_3:=e_3,
    k_4:=e_4,
    k_5:=e_5,
    k_6:=e_6,
    k_7:=e_7,
    k_8:=e_8,
    k_9:=e_9,
    k_10:=e_10,
    k_11:=e_11,
    k_12:=e_12,
    k_13:=e_13,
    x_exc:=zlf.of x_tab,
    n_ValueError:=W.mg_none_of X G z_ValueError,
    n_abs:=W.mg_none_of X G z_abs,
    n_all:=W.mg_none_of X G z_all,
    n_bool:=W.mg_none_of X G z_bool,
    n_dict:=W.mg_none_of X G z_dict,
    n_enumerate:=W.mg_none_of X G z_enumerate,
    n_int:=W.mg_none_of X G z_int,
    n_isinstance:=W.mg_none_of X G z_isinstance,
    n_len:=W.mg_none_of X G z_len,
    n_max:=W.mg_none_of X G z_max,
    n_min:=W.mg_none_of X G z_min,
    n_range:=W.mg_none_of X G z_range,
    n_set:=W.mg_none_of X G z_set,
    n_sorted:=W.mg_none_of X G z_sorted,
    n_sum:=W.mg_none_of X G z_sum,
    n_tuple:=W.mg_none_of X G z_tuple,
    n_zip:=W.mg_none_of X G z_zip,
    m_27:=W.mg_of X G f_27.e,
    F_27:=f_27.F,
    b_27:=f_27.F.binds (ps:=["script","k"]) fun _ _ _ _ _ _ us hl=>match us,hl with | [_,_],_=>rfl,
    m_28:=W.mg_of X G f_28.e,
    F_28:=f_28.F,
    b_28:=f_28.F.binds (ps:=["script","k"]) fun _ _ _ _ _ _ us hl=>match us,hl with | [_,_],_=>rfl,
    m_29:=W.mg_of X G f_29.e,
    F_29:=f_29.F,
    b_29:=f_29.F.binds (ps:=["box","many"]) fun _ _ _ _ _ _ us hl=>match us,hl with | [_,_],_=>rfl,
    m_32:=W.mg_of X G f_32.e,
    F_32:=f_32.F,
    b_32:=f_32.F.binds (ps:=["box","many"]) fun _ _ _ _ _ _ us hl=>match us,hl with | [_,_],_=>rfl,
    m_33:=W.mg_of X G f_33.e,
    F_33:=f_33.F,
    b_33:=f_33.F.binds (ps:=["box","most","lots"]) fun _ _ _ _ _ _ us hl=>match us,hl with | [_,_,_],_=>rfl,
    m_31:=W.mg_of X G f_31.e,
    F_31:=f_31.F,
    b_31:=f_31.F.binds (ps:=["e"]) fun _ _ _ _ _ _ us hl=>match us,hl with | [_],_=>rfl,
    m_16:=W.mg_of X G f_16.e,
    F_16:=f_16.F,
    b_16:=f_16.F.binds (ps:=["offers"]) fun _ _ _ _ _ _ us hl=>match us,hl with | [_],_=>rfl,
    m_17:=W.mg_of X G f_17.e,
    F_17:=f_17.F,
    b_17:=f_17.F.binds (ps:=["stock","offers"]) fun _ _ _ _ _ _ us hl=>match us,hl with | [_,_],_=>rfl,
    m_14:=W.mg_of X G f_14.e,
    F_14:=f_14.F,
    b_14:=f_14.F.binds (ps:=["stock"]) fun _ _ _ _ _ _ us hl=>match us,hl with | [_],_=>rfl,
    m_15:=W.mg_of X G f_15.e,
    F_15:=f_15.F,
    b_15:=f_15.F.binds (ps:=["stock"]) fun _ _ _ _ _ _ us hl=>match us,hl with | [_],_=>rfl,
    m_19:=W.mg_of X G f_19.e,
    F_19:=f_19.F,
    b_19:=f_19.F.binds (ps:=["stock"]) fun _ _ _ _ _ _ us hl=>match us,hl with | [_],_=>rfl,
    m_20:=W.mg_of X G f_20.e,
    F_20:=f_20.F,
    b_20:=f_20.F.binds (ps:=["rows"]) fun _ _ _ _ _ _ us hl=>match us,hl with | [_],_=>rfl,
    m_22:=W.mg_of X G f_22.e,
    F_22:=f_22.F,
    b_22:=f_22.F.binds (ps:=["rows","basis","column","place","best"]) fun _ _ _ _ _ _ us hl=>match us,hl with | [_,_,_,_,_],_=>rfl,
    m_21:=W.mg_of X G f_21.e,
    F_21:=f_21.F,
    b_21:=f_21.F.binds (ps:=["rows","basis","column"]) fun _ _ _ _ _ _ us hl=>match us,hl with | [_,_,_],_=>rfl,
    m_24:=W.mg_of X G f_24.e,
    F_24:=f_24.F,
    b_24:=f_24.F.binds (ps:=["row","chosen","column","bottom"]) fun _ _ _ _ _ _ us hl=>match us,hl with | [_,_,_,_],_=>rfl,
    m_23:=W.mg_of X G f_23.e,
    F_23:=f_23.F,
    b_23:=f_23.F.binds (ps:=["rows","place","column","bottom"]) fun _ _ _ _ _ _ us hl=>match us,hl with | [_,_,_,_],_=>rfl,
    m_1:=W.mg_of X G f_1.e,
    F_1:=f_1.F,
    b_1:=f_1.F.binds (ps:=["top","bottom"]) fun _ _ _ _ _ _ us hl=>match us,hl with | [_,_],_=>rfl,
    m_0:=W.mg_of X G f_0.e,
    F_0:=f_0.F,
    b_0:=f_0.F.binds (ps:=["top","bottom"]) fun _ _ _ _ _ _ us hl=>match us,hl with | [_,_],_=>rfl,
    m_25:=W.mg_of X G f_25.e,
    F_25:=f_25.F,
    b_25:=f_25.F.binds (ps:=["stock","rows","basis","bottom"]) fun _ _ _ _ _ _ us hl=>match us,hl with | [_,_,_,_],_=>rfl,
    m_26:=W.mg_of X G f_26.e,
    F_26:=f_26.F,
    b_26:=f_26.F.binds (ps:=["stock","rows","bottom"]) fun _ _ _ _ _ _ us hl=>match us,hl with | [_,_,_],_=>rfl,
    m_18:=W.mg_of X G f_18.e,
    F_18:=f_18.F,
    b_18:=f_18.F.binds (ps:=["stock"]) fun _ _ _ _ _ _ us hl=>match us,hl with | [_],_=>rfl,
    m_40:=W.mg_of X G f_40.e,
    F_40:=f_40.F,
    b_40:=f_40.F.binds (ps:=["stock"]) fun _ _ _ _ _ _ us hl=>match us,hl with | [_],_=>rfl,
    m_30:=W.mg_of X G f_30.e,
    F_30:=f_30.F,
    b_30:=f_30.F.binds (ps:=["thing"]) fun _ _ _ _ _ _ us hl=>match us,hl with | [_],_=>rfl,
    m_35:=W.mg_of X G f_35.e,
    F_35:=f_35.F,
    b_35:=f_35.F.binds (ps:=["top","bottom"]) fun _ _ _ _ _ _ us hl=>match us,hl with | [_,_],_=>rfl,
    m_36:=W.mg_of X G f_36.e,
    F_36:=f_36.F,
    b_36:=f_36.F.binds (ps:=["thing"]) fun _ _ _ _ _ _ us hl=>match us,hl with | [_],_=>rfl,
    m_37:=W.mg_of X G f_37.e,
    F_37:=f_37.F,
    b_37:=f_37.F.binds (ps:=["some"]) fun _ _ _ _ _ _ us hl=>match us,hl with | [_],_=>rfl,
    m_39:=W.mg_of X G f_39.e,
    F_39:=f_39.F,
    b_39:=f_39.F.binds (ps:=["stock","thing"]) fun _ _ _ _ _ _ us hl=>match us,hl with | [_,_],_=>rfl,
    m_38:=W.mg_of X G f_38.e,
    F_38:=f_38.F,
    b_38:=f_38.F.binds (ps:=["stock","thing"]) fun _ _ _ _ _ _ us hl=>match us,hl with | [_,_],_=>rfl,
    m_34:=W.mg_of X G f_34.e,
    F_34:=f_34.F,
    b_34:=f_34.F.binds (ps:=["box","stock"]) fun _ _ _ _ _ _ us hl=>match us,hl with | [_,_],_=>rfl,
    m_41:=W.mg_of X G e_41,
    F_41:=F_41,
    b_41:=b_41}
 exact ⟨W.fnOf "law" "law" (zdT s_41) (zcq s_41) (zae s_41) .none kV_41 dc_41 pm_41 an_41 cd_41 ct_41,fun s v=> .of_eq rfl,fun base _ _=>ok_41 T⟩
theorem zuB {l:W.OpenLaw} {q:Program} {loose:List Str} {XP:(Str->Option Value)->Heap->Prop} {YP:World->Heap->Prop} {d:DefRec} {K:Params->W.Frag} (hn:l.most=some 63) (hdf:d.params.defaults=[])
  (hY: ∀ (w:World) (h:Heap),YP w h->(K w.params).In h)
  (F: ∀ (w:World) (mg:Str->Option Value) (fa:Addr) (h:Heap),(K w.params).In h->h.Ns mainGlobals mg->mg d.name=some (.ref fa)->
    ∃ fd:FuncData,(∀ (s:Shared) (u:Value),BindsTo s fd ⟨[u],[]⟩ [("script",u)])/\ ∀ base:Heap,(K w.params).In base->base.Ns mainGlobals mg->zb6 l.prog w (K w.params) mg base CX0 7 fa fd ["script"] (zb9 (K w.params) 1 F_41))
  (hm: ∀ ns:List Int,ns.length<=63-> ∃ h',F_41 [.scr (ns.map D.int)] []= .ok (.bl true) h'):
  W.WalkO q loose XP YP l.row.toRowW d [] (fun f vs=>PySem.call f vs):=
 L2.zow (n:=63) (k:=7) (x:="script") (CX:=fun _=>CX0) (sp:=fun w=>zb9 (K w.params) 1 F_41) hn (by decide) hdf ⟨rfl,by decide,by decide⟩ hY F (fun w H a ns hl _ hS=>zti hS (hm ns hl)) fun _ _ _ _ _ z=>z
end K33
open PySem PySem.W PyProof.Rows
set_option maxRecDepth 100000 in
set_option maxHeartbeats 0 in
theorem PySem.Challenge.cw_cheapcovers_k33_the_best_of_both_holds : PySem.Challenge.rw_cheapcovers_k33_the_best_of_both.Holds := by
 w_on; o_law; k_head; (case hw => w_witness2)
 k_fill
 refine K33.zuB (l := PySem.Challenge.rw_cheapcovers_k33_the_best_of_both) rfl rfl (fun w h Y => W.kIn_of Y) ?F K33.zlr
 case F =>
  intro w mg fa h KX G hmg
  refine' K33.zrK KX G hmg (L3.Fd.mk ?e__law_cell (L2.zaU ?l__law_cell ?c__law_cell ?k__law_cell)) (L3.Fd.mk ?e__law_box (L2.zaU ?l__law_box ?c__law_box ?k__law_box)) (L3.Fd.mk ?e__law_take (L2.zaU ?l__law_take ?c__law_take ?k__law_take)) (L3.Fd.mk ?e__law_things (L2.zaU ?l__law_things ?c__law_things ?k__law_things)) (L3.Fd.mk ?e__law_full (L2.zaU ?l__law_full ?c__law_full ?k__law_full)) (L3.Fd.mk ?e__law_kind (L2.zaU ?l__law_kind ?c__law_kind ?k__law_kind)) (L3.Fd.mk ?e_things_together (L2.zaU ?l_things_together ?c_things_together ?k_things_together)) (L3.Fd.mk ?e_have_all (L2.zaU ?l_have_all ?c_have_all ?k_have_all)) (L3.Fd.mk ?e_is_full (L2.zaU ?l_is_full ?c_is_full ?k_is_full)) (L3.Fd.mk ?e_need_full (L2.zaU ?l_need_full ?c_need_full ?k_need_full)) (L3.Fd.mk ?e_first_rows (L2.zaU ?l_first_rows ?c_first_rows ?k_first_rows)) (L3.Fd.mk ?e_column_to_enter (L2.zaU ?l_column_to_enter ?c_column_to_enter ?k_column_to_enter)) (L3.Fd.mk ?e_leaves_ahead (L2.zaU ?l_leaves_ahead ?c_leaves_ahead ?k_leaves_ahead)) (L3.Fd.mk ?e_place_to_leave (L2.zaU ?l_place_to_leave ?c_place_to_leave ?k_place_to_leave)) (L3.Fd.mk ?e_swept (L2.zaU ?l_swept ?c_swept ?k_swept)) (L3.Fd.mk ?e_pivoted (L2.zaU ?l_pivoted ?c_pivoted ?k_pivoted)) (L3.Fd.mk ?e_greatest_divisor (L2.zaU ?l_greatest_divisor ?c_greatest_divisor ?k_greatest_divisor)) (L3.Fd.mk ?e_reduced (L2.zaU ?l_reduced ?c_reduced ?k_reduced)) (L3.Fd.mk ?e_bearing_told (L2.zaU ?l_bearing_told ?c_bearing_told ?k_bearing_told)) (L3.Fd.mk ?e_sharing_told (L2.zaU ?l_sharing_told ?c_sharing_told ?k_sharing_told)) (L3.Fd.mk ?e_balanced (L2.zaU ?l_balanced ?c_balanced ?k_balanced)) (L3.Fd.mk ?e__law_asked (L2.zaU ?l__law_asked ?c__law_asked ?k__law_asked)) (L3.Fd.mk ?e__law_whole (L2.zaU ?l__law_whole ?c__law_whole ?k__law_whole)) (L3.Fd.mk ?e__law_frac (L2.zaU ?l__law_frac ?c__law_frac ?k__law_frac)) (L3.Fd.mk ?e__law_is_frac (L2.zaU ?l__law_is_frac ?c__law_is_frac ?k__law_is_frac)) (L3.Fd.mk ?e__law_sum (L2.zaU ?l__law_sum ?c__law_sum ?k__law_sum)) (L3.Fd.mk ?e__law_is_sharing (L2.zaU ?l__law_is_sharing ?c__law_is_sharing ?k__law_is_sharing)) (L3.Fd.mk ?e__law_is_bearing (L2.zaU ?l__law_is_bearing ?c__law_is_bearing ?k__law_is_bearing)) (L3.Fd.mk ?e__law_holed (L2.zaU ?l__law_holed ?c__law_holed ?k__law_holed)) ?e_law ?l_law ?c_law ?k_law ?e_CoverError ?e_NoStock ?e_NoOffer ?e_NoThing ?e_NoCover ?e_NoPaper ?e_NoNumber ?e_NotFull ?e_NotInRow ?e_NoText ?e_NoRow ?e_TooMany ?z_ValueError ?z_abs ?z_all ?z_bool ?z_dict ?z_enumerate ?z_int ?z_isinstance ?z_len ?z_max ?z_min ?z_range ?z_set ?z_sorted ?z_sum ?z_tuple ?z_zip ?x_tab
  (case e__law_cell => k_is)
  (case l__law_cell => k_is)
  (case c__law_cell => k_is)
  (case k__law_cell => k_is)
  (case e__law_box => k_is)
  (case l__law_box => k_is)
  (case c__law_box => k_is)
  (case k__law_box => k_is)
  (case e__law_take => k_is)
  (case l__law_take => k_is)
  (case c__law_take => k_is)
  (case k__law_take => k_is)
  (case e__law_things => k_is)
  (case l__law_things => k_is)
  (case c__law_things => k_is)
  (case k__law_things => k_is)
  (case e__law_full => k_is)
  (case l__law_full => k_is)
  (case c__law_full => k_is)
  (case k__law_full => k_is)
  (case e__law_kind => k_is)
  (case l__law_kind => k_is)
  (case c__law_kind => k_is)
  (case k__law_kind => k_is)
  (case e_things_together => k_is)
  (case l_things_together => k_is)
  (case c_things_together => k_is)
  (case k_things_together => k_is)
  (case e_have_all => k_is)
  (case l_have_all => k_is)
  (case c_have_all => k_is)
  (case k_have_all => k_is)
  (case e_is_full => k_is)
  (case l_is_full => k_is)
  (case c_is_full => k_is)
  (case k_is_full => k_is)
  (case e_need_full => k_is)
  (case l_need_full => k_is)
  (case c_need_full => k_is)
  (case k_need_full => k_is)
  (case e_first_rows => k_is)
  (case l_first_rows => k_is)
  (case c_first_rows => k_is)
  (case k_first_rows => k_is)
  (case e_column_to_enter => k_is)
  (case l_column_to_enter => k_is)
  (case c_column_to_enter => k_is)
  (case k_column_to_enter => k_is)
  (case e_leaves_ahead => k_is)
  (case l_leaves_ahead => k_is)
  (case c_leaves_ahead => k_is)
  (case k_leaves_ahead => k_is)
  (case e_place_to_leave => k_is)
  (case l_place_to_leave => k_is)
  (case c_place_to_leave => k_is)
  (case k_place_to_leave => k_is)
  (case e_swept => k_is)
  (case l_swept => k_is)
  (case c_swept => k_is)
  (case k_swept => k_is)
  (case e_pivoted => k_is)
  (case l_pivoted => k_is)
  (case c_pivoted => k_is)
  (case k_pivoted => k_is)
  (case e_greatest_divisor => k_is)
  (case l_greatest_divisor => k_is)
  (case c_greatest_divisor => k_is)
  (case k_greatest_divisor => k_is)
  (case e_reduced => k_is)
  (case l_reduced => k_is)
  (case c_reduced => k_is)
  (case k_reduced => k_is)
  (case e_bearing_told => k_is)
  (case l_bearing_told => k_is)
  (case c_bearing_told => k_is)
  (case k_bearing_told => k_is)
  (case e_sharing_told => k_is)
  (case l_sharing_told => k_is)
  (case c_sharing_told => k_is)
  (case k_sharing_told => k_is)
  (case e_balanced => k_is)
  (case l_balanced => k_is)
  (case c_balanced => k_is)
  (case k_balanced => k_is)
  (case e__law_asked => k_is)
  (case l__law_asked => k_is)
  (case c__law_asked => k_is)
  (case k__law_asked => k_is)
  (case e__law_whole => k_is)
  (case l__law_whole => k_is)
  (case c__law_whole => k_is)
  (case k__law_whole => k_is)
  (case e__law_frac => k_is)
  (case l__law_frac => k_is)
  (case c__law_frac => k_is)
  (case k__law_frac => k_is)
  (case e__law_is_frac => k_is)
  (case l__law_is_frac => k_is)
  (case c__law_is_frac => k_is)
  (case k__law_is_frac => k_is)
  (case e__law_sum => k_is)
  (case l__law_sum => k_is)
  (case c__law_sum => k_is)
  (case k__law_sum => k_is)
  (case e__law_is_sharing => k_is)
  (case l__law_is_sharing => k_is)
  (case c__law_is_sharing => k_is)
  (case k__law_is_sharing => k_is)
  (case e__law_is_bearing => k_is)
  (case l__law_is_bearing => k_is)
  (case c__law_is_bearing => k_is)
  (case k__law_is_bearing => k_is)
  (case e__law_holed => k_is)
  (case l__law_holed => k_is)
  (case c__law_holed => k_is)
  (case k__law_holed => k_is)
  (case e_law => k_is)
  (case l_law => k_is)
  (case c_law => k_is)
  (case k_law => k_is)
  (case e_CoverError => k_is)
  (case e_NoStock => k_is)
  (case e_NoOffer => k_is)
  (case e_NoThing => k_is)
  (case e_NoCover => k_is)
  (case e_NoPaper => k_is)
  (case e_NoNumber => k_is)
  (case e_NotFull => k_is)
  (case e_NotInRow => k_is)
  (case e_NoText => k_is)
  (case e_NoRow => k_is)
  (case e_TooMany => k_is)
  (case z_ValueError => k_is)
  (case z_abs => k_is)
  (case z_all => k_is)
  (case z_bool => k_is)
  (case z_dict => k_is)
  (case z_enumerate => k_is)
  (case z_int => k_is)
  (case z_isinstance => k_is)
  (case z_len => k_is)
  (case z_max => k_is)
  (case z_min => k_is)
  (case z_range => k_is)
  (case z_set => k_is)
  (case z_sorted => k_is)
  (case z_sum => k_is)
  (case z_tuple => k_is)
  (case z_zip => k_is)
  (case x_tab => kernel_rfl)
