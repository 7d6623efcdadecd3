import PyProof.Rows.All
import Wide.All
import OpenK.AllK
import Wide.FinOn
import PyProof.EqAt
import PyProof.EqKinds
import PyProof.TupleCall
import PyProof.StationsW
import PyProof.ExcArgs
import PyProof.Seq
import PyProof.TupleIter
import PyProof.RangeIter
import PyProof.WalkInts
import PyProof.SumWalkG
import PyProof.ListRange
import PyProof.Rows.Range3
import OpenK.KDescr
import PyProof.ExcAttrAll.ValueError
import PyProof.Draws
import PyProof.EnumFor
import PyProof.EnumMake
import PyProof.LayNew
import PyProof.Rows.EnumRows
import PyProof.MinMaxWalk
import Lean
import PySem.Challenge.RW_cheapcovers_k71_rows_and_orders
set_option Elab.async false
set_option linter.all false
set_option maxRecDepth 100000
set_option maxHeartbeats 8000000
set_option compiler.extract_closed false
set_option bootstrap.genMatcherCode false
set_option genSizeOfSpec false
section
open PySem PySem.Spec PyProof PyProof.Rows
abbrev qaa := @List.getElem?_append_right
abbrev qab := @Array.getElem?_eq_some_iff
abbrev qac := @List.getElem?_eq_some_iff
abbrev qad := @List.getElem?_append_left
abbrev qae := @List.drop_eq_getElem_cons
abbrev qaf := @List.getElem?_eq_getElem
abbrev qag := @Heap.get?_push_of_some
abbrev qah := @Heap.get?_update_other
abbrev qai := @List.getElem?_set_self
abbrev qak := @List.mem_append_right
abbrev qal := @Heap.get?_update_self
abbrev qan := @List.mem_cons_of_mem
abbrev qao := @List.getElem?_set_ne
abbrev qap := @Around.under_plainId
abbrev qaq := @List.pairwise_append
abbrev qar := @Heap.get?_push_size
abbrev qas := @Array.length_toList
abbrev qat := @List.filterMap_cons
abbrev qau := @List.mem_cons_self
abbrev qav := @List.length_append
abbrev qaw := @Nat.lt_of_lt_of_le
abbrev qax := @Bool.false_eq_true
abbrev qay := @List.pairwise_cons
abbrev qaA := @List.size_toArray
abbrev qaB := @Int.toNat_natCast
abbrev qaC := @wpAny_newObj_type
abbrev qaD := @decide_eq_true_eq
abbrev qaE := @List.length_cons
abbrev qaF := @List.not_mem_nil
abbrev qaG := @Bool.and_eq_true
abbrev qaH := @List.length_map
abbrev qaI := @List.length_set
abbrev qaJ := @List.length_nil
abbrev qaK := @List.mem_append
abbrev qaL := @Heap.size_push
abbrev qaM := @List.map_cons
abbrev qaN := @Nat.lt_irrefl
abbrev qaO := @wpAny_holding
abbrev qaP := @List.mem_cons
abbrev qaQ := @Heap.lt_size
abbrev qaR := @Nat.ne_of_lt
abbrev qaS := @Nat.le_trans
abbrev qaT := @List.map_map
abbrev qaU := @List.mem_map
abbrev qaV := @Nat.le_refl
abbrev qaW := @wpAny_bind
abbrev qaX := @wpAny_pure
abbrev qaZ := @wpAny_mono
abbrev qa0 := @False.elim
abbrev qa4 := @if_pos
abbrev qa5 := @if_neg
end
noncomputable def PySem.W.Fast.tw3063524253578010000:Nat:=0
noncomputable def PySem.W.Fast.tw11627878212025737542:Nat:=0
noncomputable def PySem.W.Fast.tw15810422761782309346:Nat:=0
noncomputable def PySem.W.Fast.tw15789832386794820637:Nat:=0
noncomputable def PySem.W.Fast.tw18213405951581530251:Nat:=0
noncomputable def PySem.W.Fast.tw18007393167010220823:Nat:=0
noncomputable def PySem.W.Fast.tw2474400629164027708:Nat:=0
noncomputable def PySem.W.Fast.tw1068535923019974603:Nat:=0
noncomputable def PySem.W.Fast.tw5005141472607244374:Nat:=0
noncomputable def PySem.W.Fast.tw12282093772109446764:Nat:=0
noncomputable def PySem.W.Fast.tw4992699936111447189:Nat:=0
noncomputable def PySem.W.Fast.tw8271399204594964394:Nat:=0
noncomputable def PySem.W.Fast.tw11387252984372913820:Nat:=0
noncomputable def PySem.W.Fast.tw15712092938381599848:Nat:=0
noncomputable def PySem.W.Fast.tw4664516334515145400:Nat:=0
noncomputable def PySem.W.Fast.tw5762871889335972081:Nat:=0
namespace L3
open PySem
def zgN (h:Heap) (e:Addr) (cls head:Value):Prop:= ∃ ob vs,h.get? e=some ob/\ob.cls=cls/\ob.dict=none/\ob.data= .fields vs/\vs[2]? = some .none/\vs[1]? = some head
def zsN (h B:Heap) (e:Addr) (head fl:Value):Prop:= ∃ T ot ts,head= .ref T/\B.get? T=none/\T≠e/\h.get? T=some ot/\ot.data= .fields ts/\ts[3]? = some fl
structure Fly (B:Heap) (l:List Env) (e:Addr) (cls fl:Value) (h:Heap):Prop where
 stays:B.StaysIn h
 new:B.get? e=none
 frames:h.FunFrames B l
 exc: ∃ head,zgN h e cls head/\zsN h B e head fl
theorem zlS (o:Obj) (f):(o.mapFields f).dict=o.dict:=by
 obtain ⟨c,d,t,z⟩:=o
 cases t<;>rfl
section
variable {M:Model} {A:Around} {E:Value->Shared->Prop} {s:Shared} {B:Heap} {env:Env} {outer l:List Env} {L e:Addr} {cls head fl:Value}
theorem zif {hd0:Value} {hadNext:Bool} {Q:Unit->Shared->Prop} (hfr:A.frames=some (env::outer)) (hl:s.heap.FunFrames B (env::outer)) (hf:env.frame=some L) (hx:zgN s.heap e cls head)
  (hkb:B.StaysIn s.heap) (hen:B.get? e=none) (q: ∀ h',Fly B (env::outer) e cls (rawInt L) h'->s.heap.UpToSlots h'->Q () {s with heap:=h'}):
  wpAny M A (do let a<-frameOf env;let pl<-entryPlaceOf L hadNext;let b<-EntryCells.newEntry hd0 a .none (rawInt L) .none pl;setField (.ref e) 1 b) Q E s:=by
 obtain ⟨ob,vs,h1,h2,h3,h4,h5,h6⟩:=hx
 have hsz:1<vs.size:=(qab.mp h6).1
 have nfr:e∉(env::outer).filterMap (·.frame):=fun z=>by
  obtain ⟨_,o,ho,hn⟩:=hl.mem z
  rw [h1] at ho
  cases ho
  exact hn vs h4
 refine qaW (wpAny_frameOf_fun hfr hl hf fun g sg=> ?_)
 refine qaW (wpAny_entryPlaceOf fun pl hpl=> ?_)
 unfold EntryCells.newEntry newFields
 refine qaW (qaC ?_ (hpl.sizeOk5 _ _ _ _ _))
 have e1:g.get? e=some ob:=(sg.2.1 e nfr).trans h1
 have kb:B.StaysIn g:=fun b o z=>(sg.2.1 b fun w=>by rw [(hl.mem w).1] at z;cases z).trans (hkb b o z)
 generalize hob:({cls:= .type "traceback",dict:=none,data:= .fields ([hd0,.ref L,.none,rawInt L,.none]++(if pl.isEmpty then List.replicate 6 Value.none else pl)).toArray}:Obj)=tb
 have e2:(g.push tb).get? e=some ob:=qag _ e1
 have ne:g.objs.size≠e:=Nat.ne_of_gt (qaQ e1)
 have d3:=Obj.data_mapFields h4 (·.setIfInBounds 1 (Value.ref g.objs.size))
 have e3:=qal (Obj.mapFields (·.setIfInBounds 1 (Value.ref g.objs.size))) e2 (Obj.isFreed_of_fields d3)
 have ft:tb.isFreed=false:=by rw [<- hob];rfl
 have t3:((g.push tb).update e (Obj.mapFields (·.setIfInBounds 1 (Value.ref g.objs.size)))).get? g.objs.size=some tb:=(qah _ _ (Ne.symm ne)).trans (qar g ft)
 have stay: ∀ b o,b≠e->g.get? b=some o->((g.push tb).update e (Obj.mapFields (·.setIfInBounds 1 (Value.ref g.objs.size)))).get? b=some o:=fun b o hb z=>by
  rw [qah _ _ (Ne.symm hb)]
  exact qag _ z
 have nrec: ∀ b o,s.heap.get? b=some o->(∀ ws,o.data≠ .fields ws)->b≠e:=fun b o z hn w=>by
  rw [w,h1] at z
  cases z
  exact hn vs h4
 have ht: ∃ ts,tb.data= .fields ts/\ts[3]? = some (rawInt L):=⟨_,by rw [<- hob],by rcases hpl with rfl | ⟨_,_,_,_,_,_,_,rfl⟩<;>simp⟩
 obtain ⟨ts,ht1,ht2⟩:=ht
 refine wpAny_setField e2 h4 hsz (q _ ⟨fun b o z=>stay b o (fun w=>by rw [w,hen] at z;cases z) (kb b o z),hen,hl.of_keeps fun b o z hn=> ?_,.ref g.objs.size,⟨_,_,e3,(Obj.cls_mapFields _ _).trans h2,(zlS _ _).trans h3,d3,?_,?_⟩,g.objs.size,tb,ts,rfl,kb.fresh,ne,t3,ht1,ht2⟩ fun b o z hn=> ?_)
 ·obtain ⟨sl,hs⟩:=sg.2.2 b o z
  exact ⟨_,stay b _ (nrec b o z hn) hs,rfl⟩
 ·rw [Array.getElem?_setIfInBounds_ne (by decide)]
  exact h5
 ·simp [hsz]
 ·obtain ⟨sl,hs⟩:=sg.2.2 b o z
  exact ⟨sl,stay b _ (nrec b o z hn) hs⟩
theorem ziE {Q:Unit->Shared->Prop} (hfr:A.frames=some (env::outer)) (hl:s.heap.FunFrames B (env::outer)) (hf:env.frame=some L) (hx:zgN s.heap e cls .none)
  (hkb:B.StaysIn s.heap) (hen:B.get? e=none) (q: ∀ h',Fly B (env::outer) e cls (rawInt L) h'->s.heap.UpToSlots h'->Q () {s with heap:=h'}):wpAny M A (noteFrame (.ref e) env) Q E s:=by
 obtain ⟨ob,vs,h1,h2,h3,h4,h5,h6⟩:=id hx
 unfold noteFrame
 simp only [hf]
 refine qaW (wpAny_field h1 h4 h6 ?_)
 rw [qa5 (by decide)]
 exact zif hfr hl hf hx hkb hen q
theorem znV {Q:Unit->Shared->Prop} (hfr:A.frames=some (env::outer)) (hf:env.frame=some L) (y:Fly B (env::outer) e cls .none s.heap)
  (q: ∀ h',Fly B (env::outer) e cls (rawInt L) h'->s.heap.UpToSlots h'->Q () {s with heap:=h'}):wpAny M A (noteFrame (.ref e) env) Q E s:=by
 obtain ⟨hkb,hen,hl,hd,⟨ob,vs,h1,h2,h3,h4,h5,h6⟩,T,ot,ts,rfl,t1,t2,t3,t4,t5⟩:=y
 unfold noteFrame
 simp only [hf]
 refine qaW (wpAny_field h1 h4 h6 ?_)
 rw [qa4 (show (Value.ref T != Value.none)=true by simp)]
 refine qaW (wpAny_field t3 t4 t5 ?_)
 rw [qa5 (show ¬(Value.none==rawInt L)=true by simp [rawInt])]
 refine qaW (wpAny_setField t3 t4 (qab.mp t5).1 ?_)
 have oth: ∀ b,b≠T->(s.heap.update T (Obj.mapFields (·.setIfInBounds 3 Value.none))).get? b=s.heap.get? b:=fun b hb=>qah _ _ (Ne.symm hb)
 have nrec: ∀ b o,s.heap.get? b=some o->(∀ ws,o.data≠ .fields ws)->b≠T:=fun b o z hn w=>by
  rw [w,t3] at z
  cases z
  exact hn ts t4
 refine zif hfr (hl.of_keeps fun b o z hn=>⟨o,(oth b (nrec b o z hn)).trans z,rfl⟩) hf ⟨ob,vs,(oth e (Ne.symm t2)).trans h1,h2,h3,h4,h5,h6⟩ (fun b o z=>(oth b fun w=>by rw [w,t1] at z;cases z).trans (hkb b o z)) hen fun h' y u=> ?_
 exact q h' y fun b o z hn=>u b o ((oth b (nrec b o z hn)).trans z) hn
theorem zeZ {Q:Unit->Shared->Prop} (y:Fly B l e cls fl s.heap) (q: ∀ h',Fly B l e cls .none h'->(∀ b o,s.heap.get? b=some o->(∀ ws,o.data≠ .fields ws)->h'.get? b=some o)->Q () {s with heap:=h'}):
  wpAny M A (setFlight (.ref e) none) Q E s:=by
 obtain ⟨hkb,hen,hl,hd,⟨ob,vs,h1,h2,h3,h4,h5,h6⟩,T,ot,ts,rfl,t1,t2,t3,t4,t5⟩:=y
 have hsz:=(qab.mp t5).1
 have oth: ∀ b,b≠T->(s.heap.update T (Obj.mapFields (·.setIfInBounds 3 ((none:Option Addr).elim Value.none fun f=>rawInt f)))).get? b=s.heap.get? b:=fun b hb=>qah _ _ (Ne.symm hb)
 have nrec: ∀ b o,s.heap.get? b=some o->(∀ ws,o.data≠ .fields ws)->b≠T:=fun b o z hn w=>by
  rw [w,t3] at z
  cases z
  exact hn ts t4
 unfold setFlight
 refine qaW (wpAny_field h1 h4 h6 ?_)
 rw [qa4 (show (Value.ref T != Value.none)=true by simp)]
 refine wpAny_setField t3 t4 hsz (q _ ⟨fun b o z=>(oth b fun w=>by rw [w,t1] at z;cases z).trans (hkb b o z),hen,hl.of_keeps fun b o z hn=>⟨o,(oth b (nrec b o z hn)).trans z,rfl⟩,
   .ref T,⟨ob,vs,(oth e (Ne.symm t2)).trans h1,h2,h3,h4,h5,h6⟩,T,_,_,rfl,t1,t2,qal _ t3 (Obj.isFreed_of_fields (Obj.data_mapFields t4 _)),Obj.data_mapFields t4 _,by simp [hsz]⟩ fun b o z hn=>(oth b (nrec b o z hn)).trans z)
theorem Fly.tail {h:Heap} (y:Fly B (env::outer) e cls fl h):Fly B outer e cls fl h:=⟨y.stays,y.new,y.frames.2.2,y.exc⟩
theorem zhi {Q:Unit->Shared->Prop} (hfr:A.frames=some (env::outer)) (hl:s.heap.FunFrames B (env::outer)) (hf:env.frame=some L) (hx:zgN s.heap e cls .none)
  (hkb:B.StaysIn s.heap) (hen:B.get? e=none) (q: ∀ h',Fly B outer e cls .none h'->s.heap.UpToSlots h'->Q () {s with heap:=h'}):wpAny M A (leaving env (.ref e)) Q E s:=by
 unfold leaving
 refine qaW (ziE hfr hl hf hx hkb hen fun h1 y1 u1=> ?_)
 refine zeZ (s:={s with heap:=h1}) y1 fun h2 y2 k2=>q h2 y2.tail (u1.trans fun b o z hn=>⟨o.slots,k2 b o z hn⟩)
theorem zlU {h h':Heap} {args:List Value} (x:Heap.MadeExcOf h h' e cls args):zgN h' e cls .none:=by
 obtain ⟨t,h1,_,_⟩:=x.there
 exact ⟨_,_,h1,rfl,rfl,rfl,rfl,rfl⟩
end
theorem zfI:entryFor table "proto.unchain"=some Builtin.«proto.unchain» := entryFor_of_tree (by kernel_rfl)
section
variable {prog:Program} {w:World} {A:Around} {E:Value->Shared->Prop} {s:Shared}
theorem zcC {α:Type} {a h:Addr} {o:Obj} {us:Array Value} {cls head:Value} {Q:α->Shared->Prop} (hh:A.handled=some (.ref h)) (hx:zgN s.heap h cls head) (ho:s.heap.get? a=some o) (hd:o.data= .fields us) (hz:2<us.size) (hne:h≠a)
  (q:E (.ref a) {s with heap:=s.heap.update a (Obj.mapFields (·.setIfInBounds 2 (.ref h)))}):wpAny (model prog w) A (raiseNew (.ref a):Sem α) Q E s:=by
 obtain ⟨ob,vs,h1,h2,h3,h4,h5,h6⟩:=hx
 unfold raiseNew
 refine qaW (wpAny_handled ?_)
 rw [hh]
 dsimp only
 rw [qa4 (show (Value.ref h != Value.ref a)=true by simp [hne])]
 refine qaW (qaO (wpAny_runValue (codeAny_builtin zfI ?_)))
 unfold Builtin.«proto.unchain»
 refine qaW (wpAny_field h1 h4 h5 ?_)
 rw [qa4 (show (Value.none==Value.none)=true from rfl)]
 refine qaW (qaX (qaX ?_))
 refine qaW ?_
 obtain ⟨c,d,dt,sl⟩:=o
 dsimp only at hd
 subst hd
 unfold updateField
 refine qaW (wpAny_load ho ?_)
 dsimp only
 rw [qa4 hz]
 exact wpAny_update ho (wpAny_throw q)
def zkp (A:Around) (h:Heap):Prop:=A.handled=none\/ ∃ a cls head,A.handled=some (.ref a)/\zgN h a cls head
theorem zhW {it l:Addr} {i:Nat} {items:Array Value} {Q:Option Value->Shared->Prop} (hh:zkp A s.heap) (hit:s.heap.IsListIter it l i) (hl:s.heap.IsList l items) (hx:items[i]? = none)
  (k: ∀ h',Heap.ExtBut it s.heap h'->Q none {s with heap:=h'}):wpAny (model prog w) A (pyNext (.ref it)) Q E s:=by
 rcases hh with hh | ⟨ha,cls,head,hh,hX⟩
 ·exact wpAny_pyNext_list_end hh hit hl hx k
 obtain ⟨o,h1,h2,h3⟩:=id hit
 obtain ⟨ol,l1,_,nl,l2⟩:=hl
 unfold pyNext
 refine qaW (wpAny_attempt (wpAny_callSpecial?_slot (name:=Str.ofString "__next__") hit.typeIs slot_listiter_next (wpAny_call_entry slot_listiter_next hit.typeIs entry_listiter_next ?_ (args_listiter_next _))))
 show wpAny _ _ (field (.ref it) 0>>=_) _ _ s
 refine qaW (wpAny_field h1 h3 (x:= .ref l) rfl ?_)
 show wpAny _ _ (if (Value.ref l==Value.none)=true then _ else _) _ _ s
 rw [qa5 (show ¬(Value.ref l==Value.none)=true from nofun)]
 show wpAny _ _ (field (.ref it) 1>>=_) _ _ s
 refine qaW (wpAny_field h1 h3 (x:= .int i 0) rfl ?_)
 show wpAny _ _ (seqItems? (.ref l)>>=_) _ _ s
 refine qaW (wpAny_seqItems l1 l2 ?_)
 simp only [qaB,hx]
 refine qaW (wpAny_rule (qaW (wpAny_setField h1 h3 (by simp) ?_)))
 have nit:ha≠it:=fun z=>by
  subst z
  obtain ⟨ob,vs,x1,_,_,x4,x5,x6⟩:=hX
  rw [h1] at x1
  cases x1
  rw [h3] at x4
  cases x4
  simp at x5
 have hX1:zgN (s.heap.update it (Obj.mapFields (·.setIfInBounds 0 Value.none))) ha cls head:=by
  obtain ⟨ob,vs,x1,x2⟩:=hX
  exact ⟨ob,vs,(qah _ _ (Ne.symm nit)).trans x1,x2⟩
 show wpAny _ _ (newExc (.type "StopIteration") []>>=_) _ _ _
 refine qaW ?_
 simp only [newExc,newTuple]
 refine qaW (qaC ?_ (by size_fits))
 refine qaW (m:=firstArgMember _ _) (wpAny_of_eq (a:=Value.none) (by first | rfl | (simp only [firstArgMember];rfl)) ?_)
 refine qaC ?_ (by size_fits)
 obtain ⟨ob,vs,x1,x2⟩:=hX1
 have y1:=qag {cls:= .type "tuple",dict:=none,data:= .seq [].toArray} x1
 refine zcC (h:=ha) (cls:=cls) (head:=head) hh ⟨ob,vs,qag _ y1,x2⟩ (qar _ rfl) rfl (by simp;omega) (qaR (qaQ y1)) ?_
 refine qaW (wpAny_isInstance (T:="StopIteration") (b:=true) ⟨_,qal _ (qar _ rfl) rfl,rfl⟩ isSubtype_stop ?_)
 refine qaX (k _ fun b o hb z=> ?_)
 have z1:(s.heap.update it (Obj.mapFields (·.setIfInBounds 0 Value.none))).get? b=some o:=(qah _ _ (Ne.symm hb)).trans z
 have z2:=qag {cls:= .type "tuple",dict:=none,data:= .seq [].toArray} z1
 rw [qah _ _ (Nat.ne_of_gt (qaQ z2))]
 exact qag _ z2
theorem zjP {it l:Addr} {i:Nat} {items:Array Value} {Q:Option Value->Shared->Prop} (hh:zkp A s.heap) (hit:s.heap.IsTupleIter it l i) (hl:s.heap.IsTuple l items) (hx:items[i]? = none)
  (k: ∀ h',Heap.ExtBut it s.heap h'->Q none {s with heap:=h'}):wpAny (model prog w) A (pyNext (.ref it)) Q E s:=by
 rcases hh with hh | ⟨ha,cls,head,hh,hX⟩
 ·exact wpAny_pyNext_tuple_end hh hit hl hx k
 obtain ⟨o,h1,h2,h3⟩:=id hit
 obtain ⟨ol,l1,_,nl,l2⟩:=hl
 unfold pyNext
 refine qaW (wpAny_attempt (wpAny_callSpecial?_slot (name:=Str.ofString "__next__") hit.typeIs F.slot_tuple_iterator_next (wpAny_call_entry F.slot_tuple_iterator_next hit.typeIs F.entry_tuple_iterator_next ?_ (F.args_tuple_iterator_next_1 _))))
 show wpAny _ _ (field (.ref it) 0>>=_) _ _ s
 refine qaW (wpAny_field h1 h3 (x:= .ref l) rfl ?_)
 show wpAny _ _ (if (Value.ref l==Value.none)=true then _ else _) _ _ s
 rw [qa5 (show ¬(Value.ref l==Value.none)=true from nofun)]
 show wpAny _ _ (field (.ref it) 1>>=_) _ _ s
 refine qaW (wpAny_field h1 h3 (x:= .int i 0) rfl ?_)
 show wpAny _ _ (seqItems? (.ref l)>>=_) _ _ s
 refine qaW (wpAny_seqItems l1 l2 ?_)
 simp only [qaB,hx]
 refine qaW (wpAny_rule (qaW (wpAny_setField h1 h3 (by simp) ?_)))
 have nit:ha≠it:=fun z=>by
  subst z
  obtain ⟨ob,vs,x1,_,_,x4,x5,x6⟩:=hX
  rw [h1] at x1
  cases x1
  rw [h3] at x4
  cases x4
  simp at x5
 have hX1:zgN (s.heap.update it (Obj.mapFields (·.setIfInBounds 0 Value.none))) ha cls head:=by
  obtain ⟨ob,vs,x1,x2⟩:=hX
  exact ⟨ob,vs,(qah _ _ (Ne.symm nit)).trans x1,x2⟩
 show wpAny _ _ (newExc (.type "StopIteration") []>>=_) _ _ _
 refine qaW ?_
 simp only [newExc,newTuple]
 refine qaW (qaC ?_ (by size_fits))
 refine qaW (m:=firstArgMember _ _) (wpAny_of_eq (a:=Value.none) (by first | rfl | (simp only [firstArgMember];rfl)) ?_)
 refine qaC ?_ (by size_fits)
 obtain ⟨ob,vs,x1,x2⟩:=hX1
 have y1:=qag {cls:= .type "tuple",dict:=none,data:= .seq [].toArray} x1
 refine zcC (h:=ha) (cls:=cls) (head:=head) hh ⟨ob,vs,qag _ y1,x2⟩ (qar _ rfl) rfl (by simp;omega) (qaR (qaQ y1)) ?_
 refine qaW (wpAny_isInstance (T:="StopIteration") (b:=true) ⟨_,qal _ (qar _ rfl) rfl,rfl⟩ isSubtype_stop ?_)
 refine qaX (k _ fun b o hb z=> ?_)
 have z1:(s.heap.update it (Obj.mapFields (·.setIfInBounds 0 Value.none))).get? b=some o:=(qah _ _ (Ne.symm hb)).trans z
 have z2:=qag {cls:= .type "tuple",dict:=none,data:= .seq [].toArray} z1
 rw [qah _ _ (Nat.ne_of_gt (qaQ z2))]
 exact qag _ z2
theorem zkk {it:Addr} {x left step:Int} {Q:Option Value->Shared->Prop} (hh:zkp A s.heap) (hit:IsRangeIter s.heap it x left step) (hleft:left<=0)
  (k: ∀ h',Heap.ExtBut it s.heap h'->Q none {s with heap:=h'}):wpAny (model prog w) A (pyNext (.ref it)) Q E s:=by
 rcases hh with hh | ⟨ha,cls,head,hh,hX⟩
 ·exact wpAny_pyNext_range_end hh hit hleft k
 have hT:s.TypeIs (.ref it) "range_iterator":=⟨_,hit,rfl⟩
 unfold pyNext
 refine qaW (wpAny_attempt (wpAny_callSpecial?_slot (name:=Str.ofString "__next__") hT F.slot_range_iterator_next (wpAny_call_entry F.slot_range_iterator_next hT F.entry_range_iterator_next ?_ (F.args_range_iterator_next_1 _))))
 show wpAny _ _ (field (.ref it) 0>>=_) _ _ s
 refine qaW (wpAny_field hit rfl (x:=rawInt x) rfl ?_)
 show wpAny _ _ (field (.ref it) 1>>=_) _ _ s
 refine qaW (wpAny_field hit rfl (x:=rawInt left) rfl ?_)
 show wpAny _ _ (field (.ref it) 2>>=_) _ _ s
 refine qaW (wpAny_field hit rfl (x:=rawInt step) rfl ?_)
 show wpAny _ _ (if left<=0 then _ else _) _ _ s
 rw [qa4 hleft]
 refine qaW (wpAny_rule (qaW ?_))
 show wpAny _ _ (newExc (.type "StopIteration") []>>=_) _ _ _
 refine qaW ?_
 simp only [newExc,newTuple]
 refine qaW (qaC ?_ (by size_fits))
 refine qaW (m:=firstArgMember _ _) (wpAny_of_eq (a:=Value.none) (by first | rfl | (simp only [firstArgMember];rfl)) ?_)
 refine qaC ?_ (by size_fits)
 obtain ⟨ob,vs,x1,x2⟩:=hX
 have y1:=qag {cls:= .type "tuple",dict:=none,data:= .seq [].toArray} x1
 refine zcC (h:=ha) (cls:=cls) (head:=head) hh ⟨ob,vs,qag _ y1,x2⟩ (qar _ rfl) rfl (by simp;omega) (qaR (qaQ y1)) ?_
 refine qaW (wpAny_isInstance (T:="StopIteration") (b:=true) ⟨_,qal _ (qar _ rfl) rfl,rfl⟩ isSubtype_stop ?_)
 refine qaX (k _ fun b o hb z=> ?_)
 have z2:=qag {cls:= .type "tuple",dict:=none,data:= .seq [].toArray} z
 rw [qah _ _ (Nat.ne_of_gt (qaQ z2))]
 exact qag _ z2
theorem zgN.keep {h h':Heap} {a:Addr} {cls head:Value} (x:zgN h a cls head) (k: ∀ o,h.get? a=some o->h'.get? a=some o):zgN h' a cls head:=by
 obtain ⟨ob,vs,x1,x2⟩:=x
 exact ⟨ob,vs,k _ x1,x2⟩
theorem zih {ha:Addr} {cls head:Value} (hh:A.handled=some (.ref ha)) (I ax:Addr) (hne:ax≠I) (hn2:ha≠I) (items:Array Value):
  Walks prog w A I [I,ax,ha] [I] items.size (fun i v=>items[i]? = some v) (fun i h=>h.IsListIter I ax i/\h.IsList ax items/\zgN h ha cls head) where
 sub:=fun b hb=>by simp at hb;simp [hb]
 frame:=fun _ _ _ st hk=>⟨st.1.at fun o e=>hk I (by simp) o e,st.2.1.at fun o e=>hk ax (by simp) o e,st.2.2.keep fun o e=>hk ha (by simp) o e⟩
 item:=fun i s Q E hi st hQ=>by
  refine wpAny_pyNext_list_item st.1 st.2.1 (x:=items[i]) (by simp [hi]) fun h' hit' hs'=> ?_
  exact hQ _ h' s.toks (by simp [hi]) ⟨hit',st.2.1.extBut hs'.extBut hne,st.2.2.keep fun o e=>hs'.extBut ha o hn2 e⟩ fun b o hb e=>hs'.extBut b o (fun h=>hb (by simp [h])) e
 done:=fun s Q E st hQ=>zhW (.inr ⟨ha,cls,head,hh,st.2.2⟩) st.1 st.2.1 (by simp) fun h' he'=>hQ h' s.toks fun b o hb e=>he' b o (fun h=>hb (by simp [h])) e
 self:=fun _ _ _ _ st hQ=>wpAny_pyIter_listiter st.1 hQ
end
end L3
namespace L2
open PySem PySem.Spec PyProof.Rows
noncomputable abbrev Key:=Sum Int Str
noncomputable def ziC:Key->Value->Bool
 | .inl k,v=>Value.isInt k v
 | .inr x,v=>Value.isStrOf x v
noncomputable def zsU (w:World):Key->Int
 | .inl k=>hashInt k
 | .inr x=>hashStr w x
theorem zaU: ∀ {k:Key} {v:Value},ziC k v=true->(∃ i t,k=Sum.inl i/\v=Value.int i t)\/(∃ x t,k=Sum.inr x/\v=Value.str x t)
 | .inl i,v,h=>by
  obtain ⟨t,e⟩:=Value.isInt_shape (k:=i) (v:=v) h
  exact .inl ⟨i,t,rfl,e⟩
 | .inr x,v,h=>by
  obtain ⟨t,e⟩:=Value.isStrOf_shape (x:=x) (v:=v) h
  exact .inr ⟨x,t,rfl,e⟩
theorem zkJ (i:Int) (t:Tok):ziC (.inl i) (.int i t)=true:=by simp [ziC,Value.isInt]
theorem zj2 (x:Str) (t:Tok):ziC (.inr x) (.str x t)=true:=by simp [ziC,Value.isStrOf]
theorem zqI (a b:Int):decide ((Sum.inl a:Key)=Sum.inl b)=(a==b):=by
 by_cases e:a=b
 ·subst e;simp
 ·have h: ¬(Sum.inl a:Key)=Sum.inl b:=fun q=>e (Sum.inl.inj q)
  rw [decide_eq_false h]
  exact (beq_eq_false_iff_ne.mpr e).symm
theorem zo5 (a b:Str):decide ((Sum.inr a:Key)=Sum.inr b)=decide (a=b):=by
 by_cases e:a=b
 ·subst e;simp
 ·have h: ¬(Sum.inr a:Key)=Sum.inr b:=fun q=>e (Sum.inr.inj q)
  rw [decide_eq_false h,decide_eq_false e]
theorem zp1 (a:Int) (b:Str):decide ((Sum.inl a:Key)=Sum.inr b)=false:=decide_eq_false (fun q=>nomatch q)
theorem zoC (a:Str) (b:Int):decide ((Sum.inr a:Key)=Sum.inl b)=false:=decide_eq_false (fun q=>nomatch q)
noncomputable def zdD (prog:Program) (w:World):PySem.KeyKind prog w Key where
 is:=ziC
 hash:=zsU w
 inj:=fun v a b ha hb=>by
  rcases zaU ha with ⟨i,t,rfl,rfl⟩ | ⟨x,t,rfl,rfl⟩
  ·rcases zaU hb with ⟨j,u,rfl,e⟩ | ⟨y,u,rfl,e⟩
   ·injection e with e1 _;rw [e1]
   ·exact nomatch e
  ·rcases zaU hb with ⟨j,u,rfl,e⟩ | ⟨y,u,rfl,e⟩
   ·exact nomatch e
   ·injection e with e1 _;rw [e1]
 byValue:=fun k v h=>by
  rcases zaU h with ⟨i,t,rfl,rfl⟩ | ⟨x,t,rfl,rfl⟩<;>rfl
 pyHash:=fun hv h=>by
  rcases zaU hv with ⟨i,t,rfl,rfl⟩ | ⟨x,t,rfl,rfl⟩
  ·exact wpAny_pyHash_int h
  ·exact wpAny_pyHash_str h
 eqBool:=fun hu hv h=>by
  rcases zaU hu with ⟨i,t,rfl,rfl⟩ | ⟨x,t,rfl,rfl⟩
  ·rcases zaU hv with ⟨j,u,rfl,rfl⟩ | ⟨y,u,rfl,rfl⟩
   ·rw [zqI] at h;exact wpAny_eqBool_int h
   ·rw [zp1] at h;exact SeqAt.EqAt.int_str i t y u _ _ _ _ h
  ·rcases zaU hv with ⟨j,u,rfl,rfl⟩ | ⟨y,u,rfl,rfl⟩
   ·rw [zoC] at h;exact SeqAt.EqAt.str_int x t j u _ _ _ _ h
   ·rw [zo5] at h;exact wpAny_eqBool_str h
 «strs» := fun k x t v h=>by
  rcases zaU h with ⟨i,u,rfl,e⟩ | ⟨y,u,rfl,e⟩
  ·exact nomatch e
  ·injection e with e1 _
   subst e1
   cases v<;>rfl
theorem zgQ (prog:Program) (w:World) (i:Int) (t:Tok):(zdD prog w).is (.inl i) (.int i t)=true:=zkJ i t
theorem zg4 (prog:Program) (w:World) (x:Str) (t:Tok):(zdD prog w).is (.inr x) (.str x t)=true:=zj2 x t
inductive V where
 | non | bl (b:Bool) | int (i:Int) | str (x:Str) | byt (b:Array UInt8) | flt (b:UInt64) | ref (a:Addr) | ty (n:String)
 deriving DecidableEq
noncomputable def zbk:V->Value->Prop
 | .non,u=>u=Value.none
 | .bl b,u=>u=Value.bool b
 | .int i,u=> ∃ t,u=Value.int i t
 | .str x,u=> ∃ t,u=Value.str x t
 | .byt b,u=> ∃ t,u=Value.bytes b t
 | .flt b,u=> ∃ t,u=Value.float b t
 | .ref a,u=>u=Value.ref a
 | .ty n,u=>u=Value.type n
noncomputable abbrev zaM:List V->List Value->Prop:=Paired zbk
theorem zaM.length {xs:List V} {us:List Value} (r:zaM xs us):xs.length=us.length:=Paired.length r
theorem zaM.get: ∀ {xs:List V} {us:List Value} {i:Nat} {x:V},zaM xs us->xs[i]? = some x-> ∃ u,us[i]? = some u/\zbk x u
 | _,_,_,_,.nil,e=>by simp at e
 | _,_,0,_,.cons r _,e=>by simp at e;subst e;exact ⟨_,rfl,r⟩
 | _,_,i+1,x,.cons _ t,e=>by
  obtain ⟨u,h1,h2⟩:=zaM.get (i:=i) (x:=x) t (by simpa using e)
  exact ⟨u,by simpa using h1,h2⟩
theorem zaM.set {x:V} {u:Value} (r:zbk x u): ∀ {xs:List V} {us:List Value} (i:Nat),zaM xs us->zaM (xs.set i x) (us.set i u)
 | _,_,_,.nil=> .nil
 | _,_,0,.cons _ t=> .cons r t
 | _,_,i+1,.cons q t=> .cons q (zaM.set r i t)
theorem zaM.append: ∀ {xs ys:List V} {us ws:List Value},zaM xs us->zaM ys ws->zaM (xs++ys) (us++ws)
 | _,_,_,_,.nil,s=>s
 | _,_,_,_,.cons r t,s=> .cons r (zaM.append t s)
theorem zaM.take: ∀ {xs:List V} {us:List Value} (n:Nat),zaM xs us->zaM (xs.take n) (us.take n)
 | _,_,0,_=> .nil
 | _,_,_+1,.nil=> .nil
 | _,_,n+1,.cons r t=> .cons r (zaM.take n t)
theorem zaM.drop: ∀ {xs:List V} {us:List Value} (n:Nat),zaM xs us->zaM (xs.drop n) (us.drop n)
 | _,_,0,r=>r
 | _,_,_+1,.nil=> .nil
 | _,_,n+1,.cons _ t=>zaM.drop n t
noncomputable def zrV:Option V->Option Value->Prop
 | some v,some u=>zbk v u
 | none,none=>True
 | _,_=>False
noncomputable def KV {κ:Type}:List (κ×V)->List (κ×Value)->Prop:=Paired fun (p:κ×V) (q:κ×Value)=>p.1=q.1/\zbk p.2 q.2
noncomputable def kV:Key->V
 | .inl i=> .int i
 | .inr x=> .str x
inductive HO where
 | lst (xs:List V)
 | tup (xs:List V)
 | dK (kvs:List (Key×V)) | dT (kvs:List (List Key×V))
 | set (S:Int->Bool) (n:Nat)
 | ins (C dx:Addr) (fs:List (Str×V))
 | own (x:Addr)
 | xd (fs:List (Str×V))
 | met (f x:Addr)
 | rng (lo hi:Int)
 | frz (o:Obj) (u:HO)
 | tbl (ps:Array Value)
 | ext (φ:Heap->Prop)
noncomputable abbrev Hp:=Addr->Option HO
noncomputable def upd (H:Hp) (a:Addr) (o:HO):Hp:=fun b=>if b=a then some o else H b
theorem zax {H:Hp} {a:Addr} {o:HO}:upd H a o a=some o:=by unfold upd;rw [qa4 rfl]
theorem zas {H:Hp} {a b:Addr} {o:HO} (h:b≠a):upd H a o b=H b:=by unfold upd;rw [qa5 h]
theorem zaH {H:Hp} {a b:Addr} {o:HO} (h:H a=some o) (h':H b=none):a≠b:=by
 intro e;subst e;rw [h] at h';cases h'
def zh7 (h:Heap) (a:Addr) (items:Array Value):Prop:= ∃ o,h.get? a=some o/\o.cls= .type "tuple"/\ ∃ n,o.data= .seq items n/\o.dict=none
theorem zh7.is {h:Heap} {a:Addr} {items:Array Value} (x:zh7 h a items):IsTup h a items:=by
 obtain ⟨o,h1,h2,n,h3,_⟩:=x
 exact ⟨o,h1,h2,n,h3⟩
theorem zh7.new (h:Heap) (items:Array Value):zh7 (h.push {cls:= .type "tuple",data:= .seq items}) h.objs.size items:=⟨_,qar _ rfl,rfl,_,rfl,rfl⟩
section
variable (P:Program) (w:World)
noncomputable def zbb (H:Hp) (h:Heap) (a:Addr):HO->Prop
 | .lst xs=>xs.length<=sizeLine/\ ∃ (its:List Value) (n:Nat),zaM xs its/\h.get? a=some {cls:= .type "list",data:= .seq its.toArray n}
 | .tup xs=>xs.length<=sizeLine/\ ∃ its:List Value,zaM xs its/\zh7 h a its.toArray
 | .dK kvs=>kvs.length<=sizeLine/\(a==sysModules)=false/\ ∃ vs,KV kvs vs/\h.DictOf (zdD P w) a vs
 | .dT kvs=>kvs.length<=sizeLine/\(a==sysModules)=false/\ ∃ xs:List (List Key×Addr×Value),
   Paired (fun (p:List Key×V) (q:List Key×Addr×Value)=>p.1=q.1/\H q.2.1=some (.tup (p.1.map kV))/\zbk p.2 q.2.2) kvs xs/\
   ∃ o es ep,h.get? a=some o/\o.ExactDict/\o.data= .dict es ep/\es.toList=xs.map (entryOfKey (tupleKind (zdD P w)))/\(xs.map (·.1)).Nodup
 | .set S n=>h.SetOf (intKind P w) a S n
 | .ins C dx fs=>H dx=some (.own a)/\fs.length<=1000/\dx≠a/\h.get? a=some (W.instObj C dx)/\
   ∃ mA,h.Ns1 dx mA/\(∀ f,zrV (fs.lookup f) (mA f))/\PySem.Within mA (fs.map (·.1))
 | .own _=> ∃ o,h.get? a=some o
 | .xd fs=> ∃ mA,h.Ns1 a mA/\ ∀ f,zrV (fs.lookup f) (mA f)
 | .rng lo hi=> ∃ t u v,h.get? a=some {cls:= .type "range",data:= .fields #[.int lo t,.int hi u,.int 1 v]}
 | .frz o u=>h.get? a=some o/\zbb H h a u
 | .tbl ps=>h.get? a=some {cls:= .none,data:= .fields ps}
 | .met f x=>h.get? a=some (W.methodObj (.ref f) (.ref x))
 | .ext φ=>φ h/\(∃ o,h.get? a=some o)/\ ∀ h1 h2:Heap,φ h1->(∀ o,h1.get? a=some o->h2.get? a=some o)->φ h2
def HOk (H:Hp) (h:Heap):Prop:= ∀ a o,H a=some o->zbb P w H h a o
end
section
variable {P:Program} {w:World} {H H':Hp} {h h':Heap} {a:Addr} {o:HO}
theorem zbb.lt (x:zbb P w H h a o):a<h.objs.size:=by
 cases o with
 | lst xs=>obtain ⟨_,_,_,_,e⟩:=x;exact qaQ e
 | tup xs=>obtain ⟨_,_,_,p⟩:=x;exact p.is.lt
 | dK kvs=>obtain ⟨_,_,_,_,o,_,_,e,_⟩:=x;exact qaQ e
 | dT kvs=>obtain ⟨_,_,_,_,o,_,_,e,_⟩:=x;exact qaQ e
 | set S n=>obtain ⟨o,_,_,_,e,_⟩:=x;exact qaQ e
 | ins C dx fs=>obtain ⟨_,_,_,e,_⟩:=x;exact qaQ e
 | own y=>obtain ⟨_,e⟩:=x;exact qaQ e
 | xd fs=>obtain ⟨_,⟨_,_,_,e,_⟩,_⟩:=x;exact qaQ e
 | rng lo hi=>obtain ⟨_,_,_,e⟩:=x;exact qaQ e
 | frz ob u=>obtain ⟨e,_⟩:=x;exact qaQ e
 | tbl ps=>exact qaQ (show h.get? a=some _ from x)
 | met f y=>exact qaQ (show h.get? a=some _ from x)
 | ext φ=>obtain ⟨_,⟨_,e⟩,_⟩:=x;exact qaQ e
theorem Paired.mapP {α β:Type} {F G:α->β->Prop}: ∀ {l₁:List α} {l₂:List β},Paired F l₁ l₂->(∀ a b,F a b->G a b)->Paired G l₁ l₂
 | _,_,.nil,_=> .nil
 | _,_,.cons r t,f=> .cons (f _ _ r) (Paired.mapP t f)
theorem zbb.stay (x:zbb P w H h a o) (k: ∀ b u,(b=a\/H b=some (.own a))->h.get? b=some u->h'.get? b=some u)
  (ho: ∀ b,H b=some (.own a)->H' b=some (.own a)) (ht: ∀ b xs,H b=some (.tup xs)->H' b=some (.tup xs)):zbb P w H' h' a o:=by
 induction o with
 | lst xs=>obtain ⟨z,its,n,r,e⟩:=x;exact ⟨z,its,n,r,k _ _ (.inl rfl) e⟩
 | tup xs=>obtain ⟨z,its,r,ob,e,c⟩:=x;exact ⟨z,its,r,ob,k _ _ (.inl rfl) e,c⟩
 | dK kvs=>obtain ⟨z,y,vs,r,ob,es,ep,e,c⟩:=x;exact ⟨z,y,vs,r,ob,es,ep,k _ _ (.inl rfl) e,c⟩
 | dT kvs=>
  obtain ⟨z,y,xs,r,ob,es,ep,e,c⟩:=x
  exact ⟨z,y,xs,Paired.mapP r fun p q z=>⟨z.1,ht _ _ z.2.1,z.2.2⟩,ob,es,ep,k _ _ (.inl rfl) e,c⟩
 | set S n=>obtain ⟨ob,es,ep,t,e,c⟩:=x;exact ⟨ob,es,ep,t,k _ _ (.inl rfl) e,c⟩
 | ins C dx fs=>
  obtain ⟨d,z,ne,e,mA,⟨od,es,ep,e2,c⟩,r⟩:=x
  exact ⟨ho _ d,z,ne,k _ _ (.inl rfl) e,mA,⟨od,es,ep,k _ _ (.inr d) e2,c⟩,r⟩
 | own y=>obtain ⟨ob,e⟩:=x;exact ⟨ob,k _ _ (.inl rfl) e⟩
 | xd fs=>obtain ⟨mA,⟨od,es,ep,e,c⟩,r⟩:=x;exact ⟨mA,⟨od,es,ep,k _ _ (.inl rfl) e,c⟩,r⟩
 | rng lo hi=>obtain ⟨t,u,v,e⟩:=x;exact ⟨t,u,v,k _ _ (.inl rfl) e⟩
 | frz ob u ih=>obtain ⟨e,q⟩:=x;exact ⟨k _ _ (.inl rfl) e,ih q⟩
 | tbl ps=>
  have e:h.get? a=some {cls:= .none,data:= .fields ps}:=x
  show h'.get? a=some {cls:= .none,data:= .fields ps}
  exact k a _ (.inl rfl) e
 | met f y=>
  have e:h.get? a=some (W.methodObj (.ref f) (.ref y)):=x
  show h'.get? a=some (W.methodObj (.ref f) (.ref y))
  exact k a _ (.inl rfl) e
 | ext φ=>obtain ⟨p,⟨o,e⟩,st⟩:=x;exact ⟨st _ _ p fun o q=>k _ _ (.inl rfl) q,⟨o,k _ _ (.inl rfl) e⟩,st⟩
theorem HOk.lt (x:HOk P w H h) (e:H a=some o):a<h.objs.size:=(x a o e).lt
theorem HOk.fresh (x:HOk P w H h) (e:h.objs.size<=a):H a=none:=by
 cases q:H a with
 | none=>rfl
 | some u=>exact absurd (qaw (x.lt q) e) (qaN _)
theorem HOk.kept (x:HOk P w H h) (k: ∀ b u,h.get? b=some u->h'.get? b=some u):HOk P w H h':=fun a o e=>
 (x a o e).stay (fun b u _ q=>k b u q) (fun _ q=>q) fun _ _ q=>q
theorem HOk.laid (x:HOk P w H h) (k: ∀ b u,h.get? b=some u->h'.get? b=some u) (hp:h.objs.size<=a) (new:zbb P w (upd H a o) h' a o):HOk P w (upd H a o) h':=fun b u e=>by
 have hn:=x.fresh hp
 by_cases hb:b=a
 ·subst hb;rw [zax] at e;cases e;exact new
 ·rw [zas hb] at e
  exact (x b u e).stay (fun c v _ q=>k c v q) (fun c q=>by rw [zas (zaH q hn)];exact q) fun c xs q=>by rw [zas (zaH q hn)];exact q
end
def Rd (H:Hp) (a:Addr) (u:HO):Prop:=H a=some u\/ ∃ o,H a=some (.frz o u)
theorem Rd.of {H:Hp} {a:Addr} {u:HO} (h:H a=some u):Rd H a u:= .inl h
theorem Rd.ok {P:Program} {w:World} {H:Hp} {h:Heap} {a:Addr} {u:HO} (r:Rd H a u) (x:HOk P w H h):zbb P w H h a u:=by
 rcases r with r | ⟨o,r⟩
 ·exact x a u r
 ·obtain ⟨_,q⟩:=x a _ r
  exact q
noncomputable def Mut:Option HO->Prop
 | some (.lst _)=>True
 | some (.dK _)=>True
 | some (.dT _)=>True
 | some (.set _ _)=>True
 | some (.ins _ _ _)=>True
 | some (.ext _)=>True
 | _=>False
section
variable {P:Program} {w:World} {H:Hp} {h h':Heap} {x e:Addr} {o':HO}
theorem HOk.write (ok:HOk P w H h) (mu:Mut (H x)) (he:e=x\/H e=some (.own x)) (k: ∀ b u,b≠e->h.get? b=some u->h'.get? b=some u) (heo: ∃ u,h'.get? e=some u)
  (new:zbb P w (upd H x o') h' x o'):HOk P w (upd H x o') h':=fun b u q=>by
 have nown: ∀ c y,H c=some (.own y)->c≠x:=fun c y r z=>by subst z;rw [r] at mu;exact mu
 have ntup: ∀ c xs,H c=some (.tup xs)->c≠x:=fun c xs r z=>by subst z;rw [r] at mu;exact mu
 by_cases hb:b=x
 ·subst hb;rw [zax] at q;cases q;exact new
 ·rw [zas hb] at q
  by_cases hbe:b=e
  ·have q':H b=some (.own x):=by
    rcases he with z | z
    ·exact absurd (hbe.trans z) hb
    ·rw [hbe];exact z
   rw [q] at q';cases q'
   obtain ⟨v,hv⟩:=heo
   exact ⟨v,by rw [hbe];exact hv⟩
  ·refine (ok b u q).stay (fun c v hc r=>k c v ?_ r) (fun c r=>by rw [zas (nown c b r)];exact r) fun c xs r=>by rw [zas (ntup c xs r)];exact r
   rcases hc with rfl | hc
   ·exact hbe
   ·rintro rfl
    rcases he with z | z
    ·exact nown c b hc z
    ·rw [hc] at z;cases z;exact hb rfl
end
structure Un (fs ex:List Addr) (H H':Hp) (h h':Heap):Prop where
 keep: ∀ b o,h.get? b=some o->H b=none->b∉fs->b∉ex->h'.get? b=some o
 slot: ∀ b o,h.get? b=some o->H b=none->b∈fs->b∉ex-> ∃ sl,h'.get? b=some {o with slots:=sl}
 free: ∀ b o,h.get? b=some o->H b=none->b∉ex->H' b=none
 there: ∀ b o,h.get? b=some o->b∉ex-> ∃ o',h'.get? b=some o'
 tups: ∀ b xs,H b=some (.tup xs)->H' b=some (.tup xs)
 frzs: ∀ b o u,H b=some (.frz o u)->H' b=some (.frz o u)
 tbls: ∀ b ps,H b=some (.tbl ps)-> ∃ more,H' b=some (.tbl (ps++more))
section
variable {fs fs' ex ex':List Addr} {H H1 H2:Hp} {h h1 h2 h':Heap} {a x e:Addr} {o:HO}
theorem Un.any (u:Un fs ex H H1 h h1) {b:Addr} {ob:Obj} (q:h.get? b=some ob) (n:H b=none) (hx:b∉ex): ∃ sl,h1.get? b=some {ob with slots:=sl}:=by
 by_cases hb:b∈fs
 ·exact u.slot b ob q n hb hx
 ·exact ⟨ob.slots,u.keep b ob q n hb hx⟩
theorem Un.trans (a:Un fs ex H H1 h h1) (b:Un fs ex H1 H2 h1 h2):Un fs ex H H2 h h2 where
 keep:=fun c ob q n hc hx=>b.keep c ob (a.keep c ob q n hc hx) (a.free c ob q n hx) hc hx
 slot:=fun c ob q n hc hx=>by
  obtain ⟨sl,e1⟩:=a.slot c ob q n hc hx
  obtain ⟨sl',e2⟩:=b.slot c _ e1 (a.free c ob q n hx) hc hx
  exact ⟨sl',e2⟩
 free:=fun c ob q n hx=>by
  obtain ⟨o',e1⟩:=a.there c ob q hx
  exact b.free c o' e1 (a.free c ob q n hx) hx
 there:=fun c ob q hx=>by
  obtain ⟨o',e1⟩:=a.there c ob q hx
  exact b.there c o' e1 hx
 tups:=fun c xs q=>b.tups c xs (a.tups c xs q)
 frzs:=fun c ob xs q=>b.frzs c ob xs (a.frzs c ob xs q)
 tbls:=fun c ps q=>by
  obtain ⟨m1,e1⟩:=a.tbls c ps q
  obtain ⟨m2,e2⟩:=b.tbls c _ e1
  exact ⟨m1++m2,by rw [e2,Array.append_assoc]⟩
theorem Un.kept (k: ∀ b u,h.get? b=some u->h'.get? b=some u):Un fs ex H H h h':=
 ⟨fun b ob q _ _ _=>k b ob q,fun b ob q _ _ _=>⟨ob.slots,k b ob q⟩,fun _ _ _ n _=>n,fun b ob q _=>⟨ob,k b ob q⟩,fun _ _ q=>q,fun _ _ _ q=>q,fun _ ps q=>⟨#[],by rw [q];simp⟩⟩
theorem Un.refl:Un fs ex H H h h:=Un.kept fun _ _ q=>q
theorem Un.laid (k: ∀ b u,h.get? b=some u->h'.get? b=some u) (hp:h.objs.size<=a) (hn:H a=none):Un fs ex H (upd H a o) h h' where
 keep:=fun b u q _ _ _=>k b u q
 slot:=fun b u q _ _ _=>⟨u.slots,k b u q⟩
 free:=fun b u q n _=>by rw [zas (qaR (qaw (qaQ q) hp))];exact n
 there:=fun b u q _=>⟨u,k b u q⟩
 tups:=fun b xs q=>by rw [zas (zaH q hn)];exact q
 frzs:=fun b u xs q=>by rw [zas (zaH q hn)];exact q
 tbls:=fun b ps q=>⟨#[],by rw [zas (zaH q hn),q];simp⟩
theorem Un.write (mu:Mut (H x)) (he:e=x\/H e=some (.own x)) (k: ∀ b u,b≠e->h.get? b=some u->h'.get? b=some u) (heo: ∃ u,h'.get? e=some u):Un fs ex H (upd H x o) h h':=by
 have hx: ∀ b,H b=none->b≠x:=fun b n z=>by subst z;rw [n] at mu;exact mu
 have hb: ∀ b,H b=none->b≠e:=fun b n z=>by
  subst z
  rcases he with r | r
  ·exact hx b n r
  ·rw [n] at r;cases r
 have hm: ∀ b u,H b=some u-> ¬Mut (some u)->b≠x:=fun b u q nm z=>by subst z;rw [q] at mu;exact nm mu
 refine ⟨fun b u q n _ _=>k b u (hb b n) q,fun b u q n _ _=>⟨u.slots,k b u (hb b n) q⟩,fun b u q n _=>by rw [zas (hx b n)];exact n,fun b u q _=> ?_,
   fun b xs q=>by rw [zas (hm b _ q fun z=>z)];exact q,fun b u xs q=>by rw [zas (hm b _ q fun z=>z)];exact q,fun b ps q=>⟨#[],by rw [zas (hm b _ q fun z=>z),q];simp⟩⟩
 by_cases hbe:b=e
 ·subst hbe;exact heo
 ·exact ⟨u,k b u hbe q⟩
theorem Un.mono (u:Un fs ex H H1 h h1) (hs: ∀ b∈fs,b∈fs') (hx: ∀ b∈ex,b∈ex'):Un fs' ex' H H1 h h1:=
 ⟨fun b ob q n hb he=>u.keep b ob q n (fun z=>hb (hs b z)) fun z=>he (hx b z),fun _ _ q n _ he=>u.any q n fun z=>he (hx _ z),fun b ob q n he=>u.free b ob q n fun z=>he (hx b z),fun b ob q he=>u.there b ob q fun z=>he (hx b z),u.tups,u.frzs,u.tbls⟩
end
noncomputable def trk (h:Heap) (H:Hp):List Addr:=(List.range h.objs.size).filter fun a=>(H a).isSome
noncomputable def zlQ (h:Heap) (H:Hp):Heap:=W.hideAll h (trk h H)
theorem zky (h:Heap) (H:Hp):(zlQ h H).objs.size=h.objs.size:=W.hideAll_size _ _
theorem zk3 {h:Heap} {H:Hp} {b:Addr} {o:Obj} (e:h.get? b=some o) (n:H b=none):(zlQ h H).get? b=some o:=
 W.hideAll_get _ e fun hm=>by
  have q:(H b).isSome=true:=(List.mem_filter.mp hm).2
  rw [n] at q;simp at q
theorem zn3 {h:Heap} {H:Hp} {b:Addr} {o:Obj} (e:(zlQ h H).get? b=some o):h.get? b=some o/\H b=none:=by
 have e':h.get? b=some o:=W.of_hideAll (trk h H) e
 refine ⟨e',?_⟩
 cases q:H b with
 | none=>rfl
 | some x=>
  have hm:b∈trk h H:=List.mem_filter.mpr ⟨List.mem_range.mpr (qaQ e'),by simp [q]⟩
  have z:(zlQ h H).get? b=none:=W.hideAll_none (trk h H) hm
  rw [z] at e;cases e
noncomputable def znK (g h:Heap) (L:Addr):List (Addr×Obj):=(List.range h.objs.size).filterMap fun a=>if a=L\/(g.get? a).isSome=true then none else (h.get? a).map fun o=>(a,o)
noncomputable def rest (g h:Heap) (L d:Addr):List (Addr×Obj):=(znK g h L).filter fun p=>decide (p.1≠d)
structure Mod (K:W.Frag) (mg:Str->Option Value) (base:Heap):Prop where
 kin:K.In base
 glob:base.Ns mainGlobals mg
 blt: ∃ mb,base.Ns builtinsNs mb/\ ∀ x:Str,x≠"__name__"->mb x=bootBuiltins x
 nolimit:base.NoLimit
structure Cx where
 prog:Program
 w:World
 K:W.Frag
 mg:Str->Option Value
 base:Heap
 A:Around
 N:List Str
 s₀:Shared
 H₀:Hp
 env:Env
 outer:List Env
 stack:List Env
 ex:List Addr
 fn:Str->Bool
 calm:Bool
 pn:List (Addr×Obj)
 xe:Value->Shared->Prop
noncomputable def frs (l:List Env):List Addr:=l.filterMap (·.frame)
noncomputable abbrev Cx.fs (X:Cx):List Addr:=frs X.outer
def Vis (sc:Scope) (x:Str):Prop:=sc.names.lookup x=some .local\/sc.names.lookup x=some .cell\/sc.names.lookup x=some .free
def Loc (sc:Scope) (x:Str):Prop:=sc.names.lookup x=some .local\/sc.names.lookup x=some .cell
def zso (env:Env) (h:Heap) (m:Str->Option Value) (x:Str) (u:Value):Prop:=
 (env.kindOf x=some .local/\m x=some u)\/((env.kindOf x=some .cell\/env.kindOf x=some .free)/\ ∃ c,env.cells.lookup x=some c/\h.IsCell c (some u))
def zf9 (A:Around) (H:Hp):Prop:=A.handled=none\/ ∃ a o cls head vs,A.handled=some (.ref a)/\H a=some (.frz o (.own 0))/\o.cls=cls/\o.dict=none/\o.data= .fields vs/\vs[2]? = some .none/\vs[1]? = some head
structure Cx.Ok (X:Cx):Prop where
 mod:Mod X.K X.mg X.base
 kind:X.env.scope.kind= .function
 glob:X.env.globals=mainGlobals
 blt:X.env.builtins=builtinsNs
 above:X.s₀.heap.objs.size<=X.env.locals
 inj: ∀ x y c,X.env.cells.lookup x=some c->X.env.cells.lookup y=some c->x=y
 has: ∀ x,(X.env.kindOf x=some .cell\/X.env.kindOf x=some .free)-> ∃ c,X.env.cells.lookup x=some c
 cab: ∀ x c,X.fn x=true->X.env.cells.lookup x=some c->X.s₀.heap.objs.size<=c
 hd:X.calm=true->X.A.handled=none
 hx:zf9 X.A X.H₀
 frames:X.A.frames=some X.stack
 stk:X.stack=X.outer\/(X.stack=X.env::X.outer/\X.env.frame=some X.env.locals)
 exf: ∀ b∈X.ex,b≠X.env.locals/\ ∀ x c,X.env.cells.lookup x=some c->c≠b
 bs: ∀ b o,X.base.get? b=some o->X.s₀.heap.get? b=some o/\X.H₀ b=none
 bsz:X.base.objs.size<=X.s₀.heap.objs.size
 noex: ∀ b o,X.base.get? b=some o->b∉X.ex
 exfs: ∀ b∈X.ex,b∉X.fs
 funs:X.s₀.heap.FunFrames X.base X.outer
 frf: ∀ b∈X.fs,X.H₀ b=none
structure Inv (X:Cx) (pins:List (Addr×Obj)) (σ:List (Option V)) (H:Hp) (s:Shared):Prop where
 ok:X.Ok
 os:s.os=X.s₀.os
 bare:AllBare s.gens
 base:Un X.fs X.ex X.H₀ H X.s₀.heap s.heap
 loc: ∃ m,s.heap.Ns X.env.locals m/\ ∀ (i:Nat) (x:Str) (v:V),X.N[i]? = some x->σ[i]? = some (some v)->Vis X.env.scope x-> ∃ u,zbk v u/\zso X.env s.heap m x u
 cell: ∀ x c,X.env.cells.lookup x=some c-> ∃ v,s.heap.IsCell c v
 free:H X.env.locals=none
 freeC: ∀ x c,X.env.cells.lookup x=some c->H c=none
 pin: ∀ p∈X.pn++pins,s.heap.get? p.1=some p.2/\H p.1=none/\p.1≠X.env.locals/\p.1∉X.fs/\ ∀ v,p.2.data≠ .cell v
 hok:HOk X.prog X.w H s.heap
 len:σ.length=X.N.length
section
variable {X:Cx} {pins:List (Addr×Obj)} {σ:List (Option V)} {H H':Hp} {s:Shared} {h':Heap}
theorem Cx.Ok.nofr (ok:X.Ok) {b:Addr} {o:Obj} (e:X.base.get? b=some o):b∉X.fs:=fun hb=>by
 have:=(ok.funs.mem hb).1
 rw [e] at this;cases this
theorem Inv.bs (I:Inv X pins σ H s): ∀ b o,X.base.get? b=some o->s.heap.get? b=some o/\H b=none:=fun b o e=>
 ⟨I.base.keep b o (I.ok.bs b o e).1 (I.ok.bs b o e).2 (I.ok.nofr e) (I.ok.noex b o e),I.base.free b o (I.ok.bs b o e).1 (I.ok.bs b o e).2 (I.ok.noex b o e)⟩
theorem Inv.bk (I:Inv X pins σ H s): ∀ b o,X.base.get? b=some o->s.heap.get? b=some o:=fun b o e=>(I.bs b o e).1
theorem Inv.mod (I:Inv X pins σ H s):Mod X.K X.mg X.base:=I.ok.mod
theorem Inv.kIn (I:Inv X pins σ H s):X.K.In s.heap:=I.ok.mod.kin.keeps I.bk
theorem Inv.nolimit (I:Inv X pins σ H s):s.heap.NoLimit:=I.ok.mod.nolimit.keeps I.bk
theorem Inv.fr (I:Inv X pins σ H s): ∃ m,Fr X.base X.env.locals s.heap m:=
 let ⟨m,hn,_⟩:=I.loc
 ⟨m,hn,I.bk,qaS I.ok.bsz I.ok.above⟩
theorem Inv.lt (I:Inv X pins σ H s):X.env.locals<s.heap.objs.size:=let ⟨_,hn,_⟩:=I.loc;hn.lt
theorem Inv.sz (I:Inv X pins σ H s):X.s₀.heap.objs.size<=s.heap.objs.size:=qaS I.ok.above (Nat.le_of_lt I.lt)
theorem Inv.nofs (I:Inv X pins σ H s) {a:Addr} (h:s.heap.objs.size<=a):a∉X.fs:=fun hb=>by
 obtain ⟨_,o,ho,_⟩:=I.ok.funs.mem hb
 exact absurd (qaw (qaQ ho) (qaS I.sz h)) (qaN _)
theorem Inv.cne (I:Inv X pins σ H s): ∀ x c,X.env.cells.lookup x=some c->c≠X.env.locals:=fun x c e z=>by
 obtain ⟨v,o,ho,hd⟩:=I.cell x c e
 obtain ⟨m,⟨o',es,ep,ho',hd',_⟩,_⟩:=I.loc
 rw [z,ho'] at ho;cases ho;rw [hd'] at hd;cases hd
theorem Inv.funs (I:Inv X pins σ H s):s.heap.FunFrames X.base X.outer:=by
 have all: ∀ (l:List Env),(∀ b∈frs l,b∈X.fs)->X.s₀.heap.FunFrames X.base l->s.heap.FunFrames X.base l:=by
  intro l
  induction l with
  | nil=>intro _ _;trivial
  | cons env r ih=>
   intro hs hl
   obtain ⟨hk,⟨L,o,hf,hn,ho,hd⟩,hr⟩:=hl
   have hL:L∈X.fs:=hs L (by unfold frs;rw [qat,hf];exact qau)
   obtain ⟨sl,e⟩:=I.base.slot L o ho (I.ok.frf L hL) hL fun z=>I.ok.exfs L z hL
   exact ⟨hk,⟨L,_,hf,hn,e,hd⟩,ih (fun b hb=>hs b (by unfold frs;rw [qat,hf];exact qan _ hb)) hr⟩
 exact all X.outer (fun _ hb=>hb) I.ok.funs
theorem Inv.stack (I:Inv X pins σ H s):s.heap.FunFrames X.base X.stack:=by
 rcases I.ok.stk with e | ⟨e,hf⟩
 ·rw [e];exact I.funs
 ·rw [e]
  obtain ⟨m,hn,_⟩:=I.loc
  refine .cons (by rw [I.ok.kind];decide) hf hn ?_ I.funs
  exact Heap.get?_none_of_le (qaS I.ok.bsz I.ok.above)
theorem Inv.stkSub (I:Inv X pins σ H s): ∀ b∈frs X.stack,b∈X.env.locals::X.fs:=fun b hb=>by
 rcases I.ok.stk with e | ⟨e,hf⟩
 ·rw [e] at hb;exact qan _ hb
 ·rw [e] at hb
  unfold frs at hb
  rw [qat,hf] at hb
  exact hb
theorem Inv.stkFree (I:Inv X pins σ H s): ∀ b∈frs X.stack,H b=none:=fun b hb=>by
 rcases qaP.mp (I.stkSub b hb) with e | hb
 ·rw [e];exact I.free
 ·obtain ⟨_,o,ho,_⟩:=I.ok.funs.mem hb
  exact I.base.free b o ho (I.ok.frf b hb) fun z=>I.ok.exfs b z hb
theorem Inv.step {g':Array GenState} {t':Nat} {d':Drawn} {ch:List Addr} (I:Inv X pins σ H s)
  (hch: ∀ b∈ch,(b∈X.ex\/X.s₀.heap.objs.size<=b)/\b≠X.env.locals/\(∀ x c,X.env.cells.lookup x=some c->c≠b)/\ ∀ p∈X.pn++pins,p.1≠b)
  (keep: ∀ b o,b≠X.env.locals->b∉X.fs->b∉ch->s.heap.get? b=some o->H b=none->h'.get? b=some o)
  (slot: ∀ b o,b≠X.env.locals->b∈X.fs->b∉ch->s.heap.get? b=some o->H b=none-> ∃ sl,h'.get? b=some {o with slots:=sl}) (free: ∀ b o,b∉ch->s.heap.get? b=some o->H b=none->H' b=none)
  (there: ∀ b o,b∉ch->s.heap.get? b=some o-> ∃ o',h'.get? b=some o')
  (tups: ∀ b xs,H b=some (.tup xs)->H' b=some (.tup xs)) (frzs: ∀ b o u,H b=some (.frz o u)->H' b=some (.frz o u)) (tbls: ∀ b ps,H b=some (.tbl ps)-> ∃ more,H' b=some (.tbl (ps++more)))
  (ns: ∀ m,s.heap.Ns X.env.locals m->h'.Ns X.env.locals m) (hok:HOk X.prog X.w H' h') (hg:AllBare g'):
  Inv X pins σ H' {s with heap:=h',gens:=g',drawn:=d',toks:=t'}:=by
 have neL: ∀ b o,X.s₀.heap.get? b=some o->b≠X.env.locals:=fun b o e=>qaR (qaw (qaQ e) I.ok.above)
 have neC: ∀ b o,X.s₀.heap.get? b=some o->b∉X.ex->b∉ch:=fun b o e hx hb=>by
  rcases (hch b hb).1 with z | z
  ·exact hx z
  ·exact absurd (qaw (qaQ e) z) (qaN _)
 have cellK: ∀ x c,X.env.cells.lookup x=some c-> ∀ v,s.heap.IsCell c v->h'.IsCell c v:=fun x c e v ⟨o,ho,hd⟩=>by
  have nch:c∉ch:=fun z=>(hch c z).2.2.1 x c e rfl
  by_cases hc:c∈X.fs
  ·obtain ⟨sl,q⟩:=slot c o (I.cne x c e) hc nch ho (I.freeC x c e)
   exact ⟨_,q,hd⟩
  ·exact ⟨o,keep c o (I.cne x c e) hc nch ho (I.freeC x c e),hd⟩
 refine ⟨I.ok,I.os,hg,⟨fun b o e n hb hx=> ?_,fun b o e n hb hx=> ?_,fun b o e n hx=> ?_,fun b o e hx=> ?_,fun b xs e=>tups b xs (I.base.tups b xs e),fun b o xs e=>frzs b o xs (I.base.frzs b o xs e),fun b ps e=> ?_⟩,?_,fun x c e=> ?_,?_,fun x c e=> ?_,fun p hp=> ?_,hok,I.len⟩
 ·exact keep b o (neL b o e) hb (neC b o e hx) (I.base.keep b o e n hb hx) (I.base.free b o e n hx)
 ·obtain ⟨sl,e1⟩:=I.base.slot b o e n hb hx
  obtain ⟨sl',e2⟩:=slot b _ (neL b o e) hb (neC b o e hx) e1 (I.base.free b o e n hx)
  exact ⟨sl',e2⟩
 ·obtain ⟨o',e1⟩:=I.base.there b o e hx
  exact free b o' (neC b o e hx) e1 (I.base.free b o e n hx)
 ·obtain ⟨o',e1⟩:=I.base.there b o e hx
  exact there b o' (neC b o e hx) e1
 ·obtain ⟨m1,e1⟩:=I.base.tbls b ps e
  obtain ⟨m2,e2⟩:=tbls b _ e1
  exact ⟨m1++m2,by rw [e2,Array.append_assoc]⟩
 ·obtain ⟨m,hn,hl⟩:=I.loc
  refine ⟨m,ns m hn,fun i x v e1 e2 e3=> ?_⟩
  obtain ⟨u,r,l⟩:=hl i x v e1 e2 e3
  refine ⟨u,r,?_⟩
  rcases l with l | ⟨k,c,e,z⟩
  ·exact .inl l
  ·exact .inr ⟨k,c,e,cellK x c e _ z⟩
 ·obtain ⟨v,z⟩:=I.cell x c e
  exact ⟨v,cellK x c e v z⟩
 ·obtain ⟨m,⟨o,_,_,ho,_⟩,_⟩:=I.loc
  exact free _ o (fun z=>(hch _ z).2.1 rfl) ho I.free
 ·obtain ⟨v,o,ho,hd⟩:=I.cell x c e
  exact free c o (fun z=>(hch c z).2.2.1 x c e rfl) ho (I.freeC x c e)
 ·obtain ⟨e,n,ne,nf,d⟩:=I.pin p hp
  have nch:p.1∉ch:=fun z=>(hch p.1 z).2.2.2 p hp rfl
  exact ⟨keep p.1 p.2 ne nf nch e n,free p.1 p.2 nch e n,ne,nf,d⟩
theorem Inv.un {t':Nat} (I:Inv X pins σ H s) (u:Un X.fs [] H H' s.heap h') (hok:HOk X.prog X.w H' h'):Inv X pins σ H' {s with heap:=h',toks:=t'}:=by
 obtain ⟨m,⟨o,es,ep,ho,r⟩,_⟩:=id I.loc
 obtain ⟨sl,hL⟩:=u.any ho I.free (by simp)
 exact I.step (g':=s.gens) (d':=s.drawn) (ch:=[]) (fun _ z=>nomatch z) (fun b o _ hb _ e n=>u.keep b o e n hb (by simp)) (fun b o _ hb _ e n=>u.slot b o e n hb (by simp)) (fun b o _ e n=>u.free b o e n (by simp)) (fun b o _ e=>u.there b o e (by simp)) u.tups u.frzs u.tbls (fun m' hm=>by
   obtain ⟨o',es',ep',ho',r'⟩:=hm
   rw [ho] at ho';cases ho'
   exact ⟨_,es',ep',hL,r'⟩) hok I.bare
theorem Inv.call {g':Array GenState} {t':Nat} {d':Drawn} {ch:List Addr} (I:Inv X pins σ H s) (u:Un (frs X.stack) ch H H' s.heap h') (hok:HOk X.prog X.w H' h') (hg:AllBare g')
  (hch: ∀ b∈ch,(b∈X.ex\/X.s₀.heap.objs.size<=b)/\b≠X.env.locals/\(∀ x c,X.env.cells.lookup x=some c->c≠b)/\ ∀ p∈X.pn++pins,p.1≠b):
  Inv X pins σ H' {s with heap:=h',gens:=g',drawn:=d',toks:=t'}:=by
 obtain ⟨m,⟨o,es,ep,ho,r⟩,_⟩:=id I.loc
 obtain ⟨sl,hL⟩:=u.any ho I.free fun z=>(hch _ z).2.1 rfl
 exact I.step (ch:=ch) hch (fun b o hL hb hc e n=>u.keep b o e n (fun z=>(qaP.mp (I.stkSub b z)).elim hL hb) hc) (fun b o _ _ hc e n=>u.any e n hc) (fun b o hc e n=>u.free b o e n hc) (fun b o hc e=>u.there b o e hc) u.tups u.frzs u.tbls (fun m' hm=>by
   obtain ⟨o',es',ep',ho',r'⟩:=hm
   rw [ho] at ho';cases ho'
   exact ⟨_,es',ep',hL,r'⟩) hok hg
theorem Inv.turned {t':Nat} {it:Addr} (I:Inv X pins σ H s) (k: ∀ b o,b≠it->s.heap.get? b=some o->h'.get? b=some o) (hn:H it=none) (hL:it≠X.env.locals)
  (h1:it∈X.ex\/X.s₀.heap.objs.size<=it) (h2: ∀ x c,X.env.cells.lookup x=some c->c≠it) (h3: ∀ p∈X.pn++pins,p.1≠it):Inv X pins σ H {s with heap:=h',toks:=t'}:=by
 have nit: ∀ b u,H b=some u->b≠it:=fun b u e z=>by rw [z,hn] at e;cases e
 refine I.step (g':=s.gens) (d':=s.drawn) (ch:=[it]) (fun b hb=> ?_) (fun b o _ _ hc e _=>k b o (fun z=>hc (by simp [z])) e) (fun b o _ _ hc e _=>⟨o.slots,k b o (fun z=>hc (by simp [z])) e⟩) (fun _ _ _ _ n=>n)
  (fun b o hc e=>⟨o,k b o (fun z=>hc (by simp [z])) e⟩) (fun _ _ e=>e) (fun _ _ _ e=>e) (fun b ps e=>⟨#[],by rw [e];simp⟩) (fun m hm=> ?_) (fun b u e=> ?_) I.bare
 ·have e:b=it:=by simpa using hb
  subst e
  exact ⟨h1,hL,h2,h3⟩
 ·obtain ⟨o,es,ep,ho,r⟩:=hm
  exact ⟨o,es,ep,k _ o (Ne.symm hL) ho,r⟩
 ·refine (I.hok b u e).stay (fun c v hc q=>k c v ?_ q) (fun _ q=>q) fun _ _ q=>q
  rcases hc with z | z
  ·rw [z];exact nit b u e
  ·exact nit c _ z
theorem Inv.tok (I:Inv X pins σ H s) (t:Nat):Inv X pins σ H {s with toks:=t}:=I.un (h':=s.heap) (t':=t) Un.refl I.hok
theorem Inv.kept {t':Nat} (I:Inv X pins σ H s) (k: ∀ b u,s.heap.get? b=some u->h'.get? b=some u):Inv X pins σ H {s with heap:=h',toks:=t'}:=I.un (Un.kept k) (I.hok.kept k)
theorem Inv.laid {a:Addr} {o:HO} {t':Nat} (I:Inv X pins σ H s) (k: ∀ b u,s.heap.get? b=some u->h'.get? b=some u) (hp:s.heap.objs.size<=a) (new:zbb X.prog X.w (upd H a o) h' a o):
  Inv X pins σ (upd H a o) {s with heap:=h',toks:=t'}:=I.un (Un.laid k hp (I.hok.fresh hp)) (I.hok.laid k hp new)
theorem Inv.write {x e:Addr} {o:HO} {t':Nat} (I:Inv X pins σ H s) (mu:Mut (H x)) (he:e=x\/H e=some (.own x)) (k: ∀ b u,b≠e->s.heap.get? b=some u->h'.get? b=some u) (heo: ∃ u,h'.get? e=some u)
  (new:zbb X.prog X.w (upd H x o) h' x o):Inv X pins σ (upd H x o) {s with heap:=h',toks:=t'}:=I.un (Un.write mu he k heo) (I.hok.write mu he k heo new)
theorem Inv.pins_of {pins':List (Addr×Obj)} (I:Inv X pins σ H s) (h: ∀ p∈pins',s.heap.get? p.1=some p.2/\H p.1=none/\p.1≠X.env.locals/\p.1∉X.fs/\ ∀ v,p.2.data≠ .cell v):Inv X pins' σ H s:=
 ⟨I.ok,I.os,I.bare,I.base,I.loc,I.cell,I.free,I.freeC,fun p hp=>(qaK.mp hp).elim (fun z=>I.pin p (List.mem_append_left _ z)) (h p),I.hok,I.len⟩
theorem zfB {N:List Str} (hN:N.Nodup) {i j:Nat} {x:Str} (a:N[i]? = some x) (b:N[j]? = some x):i=j:=by
 obtain ⟨h1,e1⟩:=qac.mp a
 obtain ⟨h2,e2⟩:=qac.mp b
 exact (List.getElem_inj hN).mp (e1.trans e2.symm)
theorem zgs {M:Model} {A:Around} {E:Value->Shared->Prop} {i:Nat} {x:Str} {v:V} {u:Value} {Q:Unit->Shared->Prop} (I:Inv X pins σ H s) (hN:X.N.Nodup) (hi:X.N[i]? = some x) (hx:Loc X.env.scope x) (r:zbk v u)
  (h: ∀ s',Inv X pins (σ.set i (some v)) H s'->(∃ a,Heap.SameBut a s.heap s'.heap/\(a=X.env.locals\/X.env.cells.lookup x=some a))->Q () s') (hf:X.fn x=true\/X.env.scope.names.lookup x=some .local:=by first | exact .inl rfl | exact .inr rfl | assumption):wpAny M A (storeName X.env x u) Q E s:=by
 obtain ⟨m,hn,hl⟩:=id I.loc
 have hcls:(X.env.scope.kind== .class || (X.env.scope.kind== .module && X.env.locals != X.env.globals))=false:=by rw [I.ok.kind];rfl
 have hiσ:i<σ.length:=by rw [I.len];exact (qac.mp hi).1
 have cne:=I.cne
 have tracked: ∀ {a:Addr} {h':Heap},(∃ o,s.heap.get? a=some o/\H a=none)->Heap.SameBut a s.heap h'->HOk X.prog X.w H h':=fun {a h'} ha hs b ob e=>by
  obtain ⟨_,_,hfree⟩:=ha
  refine (I.hok b ob e).stay (fun c w' hc q=>(hs.2 c ?_).trans q) (fun _ q=>q) fun _ _ q=>q
  rintro rfl
  rcases hc with rfl | hc
  ·rw [hfree] at e;cases e
  ·rw [hfree] at hc;cases hc
 rcases hx with hk | hk
 ·refine wpAny_storeName_local hk hn (fun h' hn' hs=> ?_) hcls
  obtain ⟨oL,_,_,hoL,_⟩:=id hn
  refine h _ ⟨I.ok,I.os,I.bare,⟨fun b o e n hb hx=> ?_,fun b o e n hb hx=> ?_,I.base.free,fun b o e hx=> ?_,I.base.tups,I.base.frzs,I.base.tbls⟩,⟨_,hn',fun j y v' e1 e2 e3=> ?_⟩,fun y c e=> ?_,I.free,I.freeC,fun p hp=> ?_,tracked ⟨oL,hoL,I.free⟩ hs,by simpa using I.len⟩ ⟨_,hs,.inl rfl⟩
  ·exact (hs.2 b (qaR (qaw (qaQ e) I.ok.above))).trans (I.base.keep b o e n hb hx)
  ·obtain ⟨sl,e1⟩:=I.base.slot b o e n hb hx
   exact ⟨sl,(hs.2 b (qaR (qaw (qaQ e) I.ok.above))).trans e1⟩
  ·obtain ⟨o',e1⟩:=I.base.there b o e hx
   exact ⟨o',(hs.2 b (qaR (qaw (qaQ e) I.ok.above))).trans e1⟩
  ·by_cases hj:j=i
   ·subst hj
    rw [hi] at e1;cases e1
    rw [qai hiσ] at e2
    cases e2
    exact ⟨u,r,.inl ⟨hk,by simp⟩⟩
   ·rw [qao (Ne.symm hj)] at e2
    obtain ⟨u',r',q⟩:=hl j y v' e1 e2 e3
    refine ⟨u',r',?_⟩
    rcases q with ⟨k,e⟩ | ⟨k,c,e,z⟩
    ·refine .inl ⟨k,?_⟩
     have:y≠x:=fun e=>hj (zfB hN e1 (e▸hi))
     simp [this,e]
    ·exact .inr ⟨k,c,e,z.sameBut hs (cne y c e)⟩
  ·obtain ⟨w',z⟩:=I.cell y c e
   exact ⟨w',z.sameBut hs (cne y c e)⟩
  ·obtain ⟨e,n,ne,nf,d⟩:=I.pin p hp
   exact ⟨(hs.2 p.1 ne).trans e,n,ne,nf,d⟩
 ·have hfn:X.fn x=true:=by
   rcases hf with z | z
   ·exact z
   ·rw [z] at hk;cases hk
  obtain ⟨c,hc⟩:=I.ok.has x (.inl hk)
  obtain ⟨w',z⟩:=I.cell x c hc
  refine wpAny_storeName_cell I.ok.kind hk hc z (fun h' hc' hs=> ?_)
  obtain ⟨oc,hoc,hocd⟩:=id z
  refine h {s with heap:=h'} ⟨I.ok,I.os,I.bare,⟨fun b o e n hb hx=> ?_,fun b o e n hb hx=> ?_,I.base.free,fun b o e hx=> ?_,I.base.tups,I.base.frzs,I.base.tbls⟩,⟨m,hn.sameBut hs (Ne.symm (cne x c hc)),fun j y v' e1 e2 e3=> ?_⟩,fun y c' e=> ?_,I.free,I.freeC,fun p hp=> ?_,tracked ⟨oc,hoc,I.freeC x c hc⟩ hs,by simpa using I.len⟩ ⟨c,hs,.inr hc⟩
  ·exact (hs.2 b (qaR (qaw (qaQ e) (I.ok.cab x c hfn hc)))).trans (I.base.keep b o e n hb hx)
  ·obtain ⟨sl,e1⟩:=I.base.slot b o e n hb hx
   exact ⟨sl,(hs.2 b (qaR (qaw (qaQ e) (I.ok.cab x c hfn hc)))).trans e1⟩
  ·obtain ⟨o',e1⟩:=I.base.there b o e hx
   exact ⟨o',(hs.2 b (qaR (qaw (qaQ e) (I.ok.cab x c hfn hc)))).trans e1⟩
  ·by_cases hj:j=i
   ·subst hj
    rw [hi] at e1;cases e1
    rw [qai hiσ] at e2
    cases e2
    exact ⟨u,r,.inr ⟨.inl hk,c,hc,hc'⟩⟩
   ·rw [qao (Ne.symm hj)] at e2
    obtain ⟨u',r',q⟩:=hl j y v' e1 e2 e3
    refine ⟨u',r',?_⟩
    rcases q with q | ⟨k,c',e,z'⟩
    ·exact .inl q
    ·refine .inr ⟨k,c',e,z'.sameBut hs ?_⟩
     rintro rfl
     exact hj (zfB hN e1 (I.ok.inj _ _ _ e hc▸hi))
  ·by_cases hcc:c'=c
   ·subst hcc;exact ⟨_,hc'⟩
   ·obtain ⟨w2,z2⟩:=I.cell y c' e
    exact ⟨w2,z2.sameBut hs hcc⟩
  ·obtain ⟨e,n,ne,nf,d⟩:=I.pin p hp
   refine ⟨(hs.2 p.1 ?_).trans e,n,ne,nf,d⟩
   intro q
   rw [q,hoc] at e
   have q':oc=p.2:=Option.some.inj e
   exact d w' (by rw [<- q'];exact hocd)
theorem zfj {M:Model} {A:Around} {E:Value->Shared->Prop} {i:Nat} {x:Str} {v:V} {u:Value} {Q:Unit->Shared->Prop} (I:Inv X pins σ H s) (hN:X.N.Nodup) (hi:X.N[i]? = some x) (hx:Loc X.env.scope x) (r:zbk v u)
  (h: ∀ s',Inv X pins (σ.set i (some v)) H s'->Q () s') (hf:X.fn x=true\/X.env.scope.names.lookup x=some .local:=by first | exact .inl rfl | exact .inr rfl | assumption):wpAny M A (storeName X.env x u) Q E s:=
 zgs I hN hi hx r (fun s' I' _=>h s' I') hf
theorem Inv.call' {s':Shared} {ch:List Addr} (I:Inv X pins σ H s) (ho:s'.os=s.os) (u:Un (frs X.stack) ch H H' s.heap s'.heap) (hok:HOk X.prog X.w H' s'.heap) (hg:AllBare s'.gens)
  (hch: ∀ b∈ch,(b∈X.ex\/X.s₀.heap.objs.size<=b)/\b≠X.env.locals/\(∀ x c,X.env.cells.lookup x=some c->c≠b)/\ ∀ p∈X.pn++pins,p.1≠b):Inv X pins σ H' s':=by
 obtain ⟨h',g',d',t',o'⟩:=s'
 have e:o'=s.os:=ho
 subst e
 exact I.call (g':=g') (t':=t') (d':=d') u hok hg hch
end
noncomputable abbrev XK:=Value->Option Addr->Hp->Prop
noncomputable abbrev St:=List (Option V)
noncomputable abbrev VK:=V->Hp->Prop
noncomputable abbrev TE:=St->Hp->VK->Prop
noncomputable abbrev TT:=St->Hp->(Bool->Hp->Prop)->Prop
noncomputable abbrev TA:=St->Hp->(List V->Hp->Prop)->Prop
structure zmC where
 nx:St->Hp->Prop
 rt:VK
 bk:St->Hp->Prop:=fun _ _=>False
 ct:St->Hp->Prop:=fun _ _=>False
noncomputable abbrev TS:=zmC->St->Hp->Prop
def EP (X:Cx) (pins:List (Addr×Obj)) (σ:St) (Q:VK) (u:Value) (s':Shared):Prop:= ∃ v H',Inv X pins σ H' s'/\zbk v u/\Q v H'
def TP (X:Cx) (pins:List (Addr×Obj)) (σ:St) (Q:Bool->Hp->Prop) (b:Bool) (s':Shared):Prop:= ∃ H',Inv X pins σ H' s'/\Q b H'
def AP (X:Cx) (pins:List (Addr×Obj)) (σ:St) (Q:List V->Hp->Prop) (us:List Value) (s':Shared):Prop:= ∃ vs H',Inv X pins σ H' s'/\zaM vs us/\Q vs H'
def SP (X:Cx) (pins:List (Addr×Obj)) (D:zmC) (f:Flow) (s':Shared):Prop:=
 match f with
 | .next=> ∃ σ' H',Inv X pins σ' H' s'/\D.nx σ' H'
 | .brk=> ∃ σ' H',Inv X pins σ' H' s'/\D.bk σ' H'
 | .cont=> ∃ σ' H',Inv X pins σ' H' s'/\D.ct σ' H'
 | .ret u=> ∃ v σ' H',Inv X pins σ' H' s'/\zbk v u/\D.rt v H'
def PE (X:Cx) (e:Expr) (t:TE):Prop:=
 ∀ (pins:List (Addr×Obj)) (s:Shared) (σ:St) (H:Hp) (Q:VK),Inv X pins σ H s->t σ H Q->wpAny (model X.prog X.w) X.A (eval e X.env) (EP X pins σ Q) X.xe s
def PT (X:Cx) (e:Expr) (t:TT):Prop:=
 ∀ (pins:List (Addr×Obj)) (s:Shared) (σ:St) (H:Hp) (Q:Bool->Hp->Prop),Inv X pins σ H s->t σ H Q->wpAny (model X.prog X.w) X.A (isTrue e X.env (eval e X.env)) (TP X pins σ Q) X.xe s
def PW (X:Cx) (e:Expr) (t:TT):Prop:=
 ∀ (whole:Sem Value) (pins:List (Addr×Obj)) (s:Shared) (σ:St) (H:Hp) (Q:Bool->Hp->Prop),Inv X pins σ H s->t σ H Q->wpAny (model X.prog X.w) X.A (isTrue e X.env whole) (TP X pins σ Q) X.xe s
theorem PW.pt {X:Cx} {e:Expr} {t:TT} (h:PW X e t):PT X e t:=h _
def PA (X:Cx) (es:List Expr) (t:TA):Prop:=
 ∀ (pos:Pos) (pins:List (Addr×Obj)) (s:Shared) (σ:St) (H:Hp) (Q:List V->Hp->Prop),Inv X pins σ H s->t σ H Q->wpAny (model X.prog X.w) X.A (spliced (backTo pos (starEach es X.env))) (AP X pins σ Q) X.xe s
def PS (X:Cx) (st:Stmt) (t:TS):Prop:=
 ∀ (pins:List (Addr×Obj)) (s:Shared) (σ:St) (H:Hp) (D:zmC),Inv X pins σ H s->t D σ H->wpAny (model X.prog X.w) X.A (exec st X.env) (SP X pins D) X.xe s
def PSs (X:Cx) (st:List Stmt) (t:TS):Prop:=
 ∀ (pins:List (Addr×Obj)) (s:Shared) (σ:St) (H:Hp) (D:zmC),Inv X pins σ H s->t D σ H->wpAny (model X.prog X.w) X.A (execs st X.env) (SP X pins D) X.xe s
theorem thn {α:Type} {t:Sem α} {Q Q':α->Shared->Prop} {M:Model} {A:Around} {E:Value->Shared->Prop} {s:Shared} (h:wpAny M A t Q E s) (hQ: ∀ a s,Q a s->Q' a s):wpAny M A t Q' E s:=qaZ h hQ fun _ _ x=>x
section
variable {X:Cx}
noncomputable def zsl (i:Nat):TE:=fun σ H Q=> ∃ v,σ[i]? = some (some v)/\Q v H
noncomputable def tC (v:V):TE:=fun _ H Q=>Q v H
theorem zml {i:Nat} {x:Str} {pos:Pos} (hN:X.N[i]? = some x) (hv:Vis X.env.scope x) (hd:(x==("__debug__":Str))=false:=by decide) (hcd:(x==("__classdict__":Str))=false:=by decide):PE X (.Name x pos) (zsl i):=by
 intro pins s σ H Q I h
 obtain ⟨v,e,h⟩:=h
 obtain ⟨m,hn,hl⟩:=I.loc
 obtain ⟨u,r,l⟩:=hl i x v hN e hv
 have fin:EP X pins σ Q u s:=⟨v,H,I,r,h⟩
 rcases l with ⟨hk,hm⟩ | ⟨hk,c,hc,hcell⟩
 ·exact wpAny_Name (wpAny_loadName_local I.ok.kind hk hn hm fin) hd
 ·rcases hk with hk | hk
  ·exact wpAny_Name (wpAny_loadName_cell I.ok.kind hk hc hcell fin) hd
  ·exact wpAny_Name (wpAny_loadName_free I.ok.kind hk hc hcell fin hcd) hd
theorem zmp {i j pos}:PE X (.Constant (.int i) j pos) (tC (.int i)):=fun _ _ _ H _ I h=>wpAny_Constant_int ⟨.int i,H,I.tok _,⟨_,rfl⟩,h⟩
theorem zpS {b j pos}:PE X (.Constant (.bool b) j pos) (tC (.bl b)):=fun _ _ _ H _ I h=>Constant_bool ⟨.bl b,H,I,rfl,h⟩
theorem zpR {j pos}:PE X (.Constant .none j pos) (tC .non):=fun _ _ _ H _ I h=>Constant_none ⟨.non,H,I,rfl,h⟩
theorem zmD {x j pos}:PE X (.Constant (.str x) j pos) (tC (.str x)):=fun _ _ _ H _ I h=>Calls.Constant_str ⟨.str x,H,I.tok _,⟨_,rfl⟩,h⟩
def Gl (X:Cx) (x:Str):Prop:=X.env.kindOf x=some .globalImplicit
theorem zgX {E:Value->Shared->Prop} {pins:List (Addr×Obj)} {s:Shared} {σ:St} {H:Hp} {x:Str} {u:Value} {pos:Pos} {Q:Value->Shared->Prop} (I:Inv X pins σ H s) (hg:Gl X x) (hm:X.mg x=some u) (h:Q u s)
  (hd:(x==("__debug__":Str))=false:=by decide):wpAny (model X.prog X.w) X.A (eval (.Name x pos) X.env) Q E s:=
 Calls.Name_function_global I.ok.kind hg (Calls.loadGlobal_global (by rw [I.ok.glob];exact I.mod.glob.keeps I.bk) hm h) hd
theorem zgj {E:Value->Shared->Prop} {pins:List (Addr×Obj)} {s:Shared} {σ:St} {H:Hp} {x:Str} {u:Value} {pos:Pos} {Q:Value->Shared->Prop} (I:Inv X pins σ H s) (hg:Gl X x) (hm:X.mg x=none) (hv:bootBuiltins x=some u) (h:Q u s)
  (hn:x≠"__name__":=by decide) (hd:(x==("__debug__":Str))=false:=by decide):wpAny (model X.prog X.w) X.A (eval (.Name x pos) X.env) Q E s:=by
 obtain ⟨mb,h1,h2⟩:=I.mod.blt
 exact Calls.Name_function_global I.ok.kind hg (Calls.loadGlobal_builtin (by rw [I.ok.glob];exact I.mod.glob.keeps I.bk) hm (by rw [I.ok.blt];exact h1.keeps I.bk) ((h2 x hn).trans hv) h) hd
theorem zol {x:Str} {v:V} {u:Value} {pos:Pos} (hg:Gl X x) (hm:X.mg x=some u) (r:zbk v u) (hd:(x==("__debug__":Str))=false:=by decide):PE X (.Name x pos) (tC v):=
 fun _ _ _ H _ I h=>zgX I hg hm ⟨v,H,I,r,h⟩ hd
theorem zkb {x:Str} {v:V} {u:Value} {pos:Pos} (hg:Gl X x) (hm:X.mg x=none) (hv:bootBuiltins x=some u) (r:zbk v u) (hn:x≠"__name__":=by decide) (hd:(x==("__debug__":Str))=false:=by decide):PE X (.Name x pos) (tC v):=
 fun _ _ _ H _ I h=>zgj I hg hm hv ⟨v,H,I,r,h⟩ hn hd
noncomputable def t2I (ta tb:TE) (k:Int->Int->Hp->Prop):St->Hp->Prop:=fun σ H=>ta σ H fun x H1=>tb σ H1 fun y H2=> ∃ i j,x= .int i/\y= .int j/\k i j H2
variable {a b:Expr} {ta tb:TE} {pos:Pos}
noncomputable def zgL (p:Int->Int->Bool) (ta tb:TE):TE:=fun σ H Q=>t2I ta tb (fun i j H2=>Q (.bl (p i j)) H2) σ H
noncomputable def tB (t:TE):TT:=fun σ H Q=>t σ H fun x H1=> ∃ c,x= .bl c/\Q c H1
theorem zoM {e:Expr} {t:TE} (h:PE X e t) (he: ∀ whole,isTrue e X.env whole=(do let v<-whole;standAt e.pos;holding [v] (truthy v)):=by intro _;rfl):PT X e (tB t):=by
 intro pins s σ H Q I hw
 refine isTrue_plain (thn (h pins s σ H _ I hw) fun v s1 ⟨x,H1,I1,r1,q1⟩=> ?_) (he _)
 obtain ⟨d,rfl,q⟩:=q1
 cases r1
 exact wpAny_truthy_bool ⟨H1,I1,q⟩
variable {tA tB':TT} {rest:List Expr}
noncomputable def zsk (t u:TT):TT:=fun σ H Q=>t σ H fun c H1=>if c=true then u σ H1 Q else Q false H1
noncomputable def tOr (t u:TT):TT:=fun σ H Q=>t σ H fun c H1=>if c=true then Q true H1 else u σ H1 Q
noncomputable def zfO (t:TT):TT:=fun σ H Q=>t σ H fun c H1=>Q (!c) H1
theorem pw_or1 (ha:PT X a tA):PW X (.BoolOp .Or [a] pos) tA:=by
 intro wh pins s σ H Q I h
 refine isTrue_or (thn (ha pins s σ H Q I h) fun c s1 e=> ?_)
 cases c with
 | false=>exact isTrue_or_nil e
 | true=>exact e
theorem pw_or (ha:PT X a tA) (hb:PW X (.BoolOp .Or (b::rest) pos) tB'):PW X (.BoolOp .Or (a::b::rest) pos) (tOr tA tB'):=by
 intro wh pins s σ H Q I h
 refine isTrue_or (thn (ha pins s σ H _ I h) fun c s1 ⟨H1,I1,q1⟩=> ?_)
 cases c with
 | true=>exact ⟨H1,I1,q1⟩
 | false=>exact hb wh pins s1 σ H1 Q I1 q1
theorem zqg (ha:PT X a tA):PT X (.UnaryOp .Not a pos) (zfO tA):=by
 intro pins s σ H Q I h
 exact isTrue_not (ha pins s σ H (fun c H1=>Q (!c) H1) I h)
noncomputable def zrr (ta tb:TE):TE:=fun σ H Q=>ta σ H fun x H1=> ∃ c,x= .bl c/\if c=true then tb σ H1 Q else Q (.bl false) H1
noncomputable def zrG (ta:TE):TE:=fun σ H Q=>ta σ H fun x H1=> ∃ c,x= .bl c/\Q (.bl (!c)) H1
theorem zoW {op} {t:TE} (h:PE X a t):PE X (.BoolOp op [a] pos) t:=fun pins s σ H Q I hw=>BoolOp_one (h pins s σ H Q I hw)
theorem zqJ (ha:PE X a ta) (hb:PE X (.BoolOp .And (b::rest) pos) tb):PE X (.BoolOp .And (a::b::rest) pos) (zrr ta tb):=by
 intro pins s σ H Q I h
 refine BoolOp_and (thn (ha pins s σ H _ I h) fun v s1 ⟨x,H1,I1,r1,q1⟩=> ?_)
 obtain ⟨c,rfl,q1⟩:=q1
 cases r1
 refine wpAny_truthy_bool ?_
 cases c with
 | true=>exact hb pins s1 σ H1 Q I1 q1
 | false=>exact ⟨.bl false,H1,I1,rfl,q1⟩
theorem zqm (ha:PE X a ta):PE X (.UnaryOp .Not a pos) (zrG ta):=by
 intro pins s σ H Q I h
 refine UnaryOp_ (thn (ha pins s σ H _ I h) fun v s1 ⟨x,H1,I1,r1,q1⟩=> ?_)
 obtain ⟨c,rfl,q1⟩:=q1
 cases r1
 exact not_of (wpAny_truthy_bool ⟨.bl (!c),H1,I1,rfl,q1⟩)
end
def SqL (K:W.Frag) (H:Hp) (a:Addr) (xs:List V):Prop:=
 Rd H a (.lst xs)\/
  ∃ (o:Obj) (its:Array Value) (n:Nat),K.lookup a=some o/\o.cls= .type "list"/\o.dict=none/\o.data= .seq its n/\its.size<=sizeLine/\zaM xs its.toList
def SqT (K:W.Frag) (H:Hp) (a:Addr) (xs:List V):Prop:=
 Rd H a (.tup xs)\/
  ∃ (o:Obj) (its:Array Value) (n:Nat),K.lookup a=some o/\o.cls= .type "tuple"/\o.dict=none/\o.data= .seq its n/\its.size<=sizeLine/\zaM xs its.toList
noncomputable def zsR:Value->Option V
 | .none=>some .non
 | .bool b=>some (.bl b)
 | .int i _=>some (.int i)
 | .str x _=>some (.str x)
 | .bytes b _=>some (.byt b)
 | .float b _=>some (.flt b)
 | .ref a=>some (.ref a)
 | .type n=>some (.ty n)
 | _=>none
theorem zbk.abs {x:V} {u:Value} (r:zbk x u):zsR u=some x:=by
 cases x with
 | non=>cases r;rfl
 | bl _=>cases r;rfl
 | int _=>obtain ⟨t,rfl⟩:=r;rfl
 | str _=>obtain ⟨t,rfl⟩:=r;rfl
 | byt _=>obtain ⟨t,rfl⟩:=r;rfl
 | flt _=>obtain ⟨t,rfl⟩:=r;rfl
 | ref _=>cases r;rfl
 | ty _=>cases r;rfl
theorem zbk.inj {x y:V} {u:Value} (r:zbk x u) (q:zbk y u):x=y:=Option.some.inj (r.abs.symm.trans q.abs)
theorem zaM.inj: ∀ {xs ys:List V} {us:List Value},zaM xs us->zaM ys us->xs=ys
 | _,_,_,.nil,.nil=>rfl
 | _,_,_,.cons r t,.cons r' t'=>by rw [r.inj r',zaM.inj t t']
section
variable {X:Cx} {pins:List (Addr×Obj)} {σ:St} {H:Hp} {s:Shared} {a:Addr} {xs ys:List V}
theorem SqL.of {K:W.Frag} (h:H a=some (.lst xs)):SqL K H a xs:= .inl (.inl h)
theorem SqT.of {K:W.Frag} (h:H a=some (.tup xs)):SqT K H a xs:= .inl (.inl h)
theorem Inv.list (I:Inv X pins σ H s) (h:SqL X.K H a xs): ∃ its:List Value,zaM xs its/\PlainL s.heap a its.toArray/\xs.length<=sizeLine:=by
 rcases h with h | ⟨o,its,n,hk,hc,hd,hs,hz,r⟩
 ·obtain ⟨z,its,n,r,e⟩:=h.ok I.hok
  exact ⟨its,r,⟨_,n,e,rfl,rfl,rfl⟩,z⟩
 ·refine ⟨its.toList,r,⟨o,n,I.kIn a o hk,hc,hd,by simpa using hs⟩,?_⟩
  have e:=r.length
  simp only [qas] at e
  omega
theorem Inv.tupleD (I:Inv X pins σ H s) (h:SqT X.K H a xs): ∃ its:List Value,zaM xs its/\zh7 s.heap a its.toArray/\xs.length<=sizeLine:=by
 rcases h with h | ⟨o,its,n,hk,hc,hd,hs,hz,r⟩
 ·obtain ⟨z,its,r,p⟩:=h.ok I.hok
  exact ⟨its,r,p,z⟩
 ·refine ⟨its.toList,r,⟨o,I.kIn a o hk,hc,n,by simpa using hs,hd⟩,?_⟩
  have e:=r.length
  simp only [qas] at e
  omega
theorem Inv.tuple (I:Inv X pins σ H s) (h:SqT X.K H a xs): ∃ its:List Value,zaM xs its/\IsTup s.heap a its.toArray/\xs.length<=sizeLine:=by
 obtain ⟨its,r,p,z⟩:=I.tupleD h
 exact ⟨its,r,p.is,z⟩
theorem Inv.list_inj (I:Inv X pins σ H s) (h:SqL X.K H a xs) (h':SqL X.K H a ys):xs=ys:=by
 obtain ⟨its,r,⟨o,n,e,_,_,d⟩,_⟩:=I.list h
 obtain ⟨its',r',⟨o',n',e',_,_,d'⟩,_⟩:=I.list h'
 rw [e] at e';cases e'
 rw [d] at d'
 injection d' with d1 _
 have:its=its':=by simpa using congrArg Array.toList d1
 subst this
 exact r.inj r'
theorem Inv.tuple_inj (I:Inv X pins σ H s) (h:SqT X.K H a xs) (h':SqT X.K H a ys):xs=ys:=by
 obtain ⟨its,r,⟨o,e,_,n,d⟩,_⟩:=I.tuple h
 obtain ⟨its',r',⟨o',e',_,n',d'⟩,_⟩:=I.tuple h'
 rw [e] at e';cases e'
 rw [d] at d'
 injection d' with d1 _
 have:its=its':=by simpa using congrArg Array.toList d1
 subst this
 exact r.inj r'
end
noncomputable abbrev Cx.wish (X:Cx) (E:Value->Shared->Prop):Cx:={X with xe:=E}
noncomputable abbrev Cx.nox (X:Cx):Cx:=X.wish fun _ _=>False
theorem Cx.Ok.wish {X:Cx} (ok:X.Ok) (E:Value->Shared->Prop):(X.wish E).Ok:=
 ⟨ok.mod,ok.kind,ok.glob,ok.blt,ok.above,ok.inj,ok.has,ok.cab,ok.hd,ok.hx,ok.frames,ok.stk,ok.exf,ok.bs,ok.bsz,ok.noex,ok.exfs,ok.funs,ok.frf⟩
theorem Cx.Ok.unwish {X:Cx} {E:Value->Shared->Prop} (ok:(X.wish E).Ok):X.Ok:=
 ⟨ok.mod,ok.kind,ok.glob,ok.blt,ok.above,ok.inj,ok.has,ok.cab,ok.hd,ok.hx,ok.frames,ok.stk,ok.exf,ok.bs,ok.bsz,ok.noex,ok.exfs,ok.funs,ok.frf⟩
section
variable {X:Cx} {pins:List (Addr×Obj)} {σ:St} {H:Hp} {s:Shared} {E:Value->Shared->Prop}
theorem Inv.wish (I:Inv X pins σ H s) (E:Value->Shared->Prop):Inv (X.wish E) pins σ H s:=⟨I.ok.wish E,I.os,I.bare,I.base,I.loc,I.cell,I.free,I.freeC,I.pin,I.hok,I.len⟩
theorem Inv.unwish (I:Inv (X.wish E) pins σ H s):Inv X pins σ H s:=⟨I.ok.unwish,I.os,I.bare,I.base,I.loc,I.cell,I.free,I.freeC,I.pin,I.hok,I.len⟩
theorem SP.unwish {D:zmC} {f:Flow} {s':Shared} (h:SP (X.wish E) pins D f s'):SP X pins D f s':=by
 cases f with
 | next=>obtain ⟨σ',H',I,q⟩:=h;exact ⟨σ',H',I.unwish,q⟩
 | brk=>obtain ⟨σ',H',I,q⟩:=h;exact ⟨σ',H',I.unwish,q⟩
 | cont=>obtain ⟨σ',H',I,q⟩:=h;exact ⟨σ',H',I.unwish,q⟩
 | ret u=>obtain ⟨v,σ',H',I,r,q⟩:=h;exact ⟨v,σ',H',I.unwish,r,q⟩
theorem PE.nox {e:Expr} {t:TE} (h:PE X.nox e t):PE X e t:=fun pins s σ H Q I hw=>
 qaZ (h pins s σ H Q (I.wish _) hw) (fun _ _ ⟨v,H',I',r,q⟩=>⟨v,H',I'.unwish,r,q⟩) fun _ _ z=>qa0 z
theorem PT.nox {e:Expr} {t:TT} (h:PT X.nox e t):PT X e t:=fun pins s σ H Q I hw=>
 qaZ (h pins s σ H Q (I.wish _) hw) (fun _ _ ⟨H',I',q⟩=>⟨H',I'.unwish,q⟩) fun _ _ z=>qa0 z
theorem PSs.nox {st:List Stmt} {t:TS} (h:PSs X.nox st t):PSs X st t:=fun pins s σ H D I hw=>
 qaZ (h pins s σ H D (I.wish _) hw) (fun _ _ q=>q.unwish) fun _ _ z=>qa0 z
end
section
variable {X:Cx} {st:Stmt} {rest:List Stmt} {t u:TS} {e:Expr} {te:TE} {pos:Pos}
noncomputable def zrR:TS:=fun D σ H=>D.nx σ H
noncomputable def zsM (t u:TS):TS:=fun D σ H=>t {D with nx:=u D} σ H
theorem znL:PSs X [] zrR:=fun _ _ σ H _ I h=>wpAny_execs_nil ⟨σ,H,I,h⟩
theorem zlt (h1:PS X st t) (h2:PSs X rest u):PSs X (st::rest) (zsM t u):=by
 intro pins s σ H D I h
 refine wpAny_execs_cons (thn (h1 pins s σ H {D with nx:=u D} I h) fun f s1 q=> ?_)
 cases f with
 | next=>
  obtain ⟨σ',H',I',q⟩:=q
  exact h2 pins s1 σ' H' D I' q
 | ret v=>exact q
 | brk=>exact q
 | cont=>exact q
theorem zmW (h1:PS X st t):PSs X [st] t:=by
 intro pins s σ H D I h
 refine wpAny_execs_cons (thn (h1 pins s σ H D I h) fun f s1 q=> ?_)
 cases f with
 | next=>exact wpAny_execs_nil q
 | ret v=>exact q
 | brk=>exact q
 | cont=>exact q
theorem Inv.quiet {pins:List (Addr×Obj)} {σ:St} {H:Hp} {s:Shared} (I:Inv X pins σ H s):interactive X.env=false:=by simp [interactive,I.ok.kind]
noncomputable def zrs (te:TE):TS:=fun D σ H=>te σ H fun _ H1=>D.nx σ H1
theorem zn9 (he:PE X e te) (hs:swapsWith e none pos.line X.env=pure false:=by rfl):PS X (.Expr e pos) (zrs te):=by
 intro pins s σ H D I h
 exact wpAny_Expr_any (thn (he pins s σ H _ I h) fun v s1 ⟨x,H1,I1,r1,q1⟩=>⟨σ,H1,I1,q1⟩) I.quiet hs
noncomputable def zsD (te:TE):TS:=fun D σ H=>te σ H D.rt
theorem zoE (he:PE X e te):PS X (.Return (some e) pos) (zsD te):=by
 intro pins s σ H D I h
 exact wpAny_Return_some (thn (he pins s σ H _ I h) fun v s1 ⟨x,H1,I1,r1,q1⟩=>⟨x,σ,H1,I1,r1,q1⟩)
noncomputable def zsv (c:TT) (t u:TS):TS:=fun D σ H=>c σ H fun b H1=>if b=true then t D σ H1 else u D σ H1
theorem zq3 {c:Expr} {a b:List Stmt} {tc:TT} (hc:PT X c tc) (ha:PSs X a t) (hb:PSs X b u):PS X (.If c a b pos) (zsv tc t u):=by
 intro pins s σ H D I h
 refine wpAny_If (thn (hc pins s σ H _ I h) fun d s1 ⟨H1,I1,q1⟩=> ?_)
 cases d with
 | true=>exact ha pins s1 σ H1 D I1 q1
 | false=>exact hb pins s1 σ H1 D I1 q1
end
noncomputable abbrev TG:=V->St->Hp->(St->Hp->Prop)->Prop
noncomputable abbrev TGs:=List V->St->Hp->(St->Hp->Prop)->Prop
def PG (X:Cx) (target:Expr) (t:TG):Prop:=
 ∀ (pins:List (Addr×Obj)) (s:Shared) (σ:St) (H:Hp) (v:V) (u:Value) (Q:St->Hp->Prop),Inv X pins σ H s->zbk v u->t v σ H Q->
  wpAny (model X.prog X.w) X.A (assign target X.env u) (fun _ s'=> ∃ σ' H',Inv X pins σ' H' s'/\Q σ' H') X.xe s
def PGs (X:Cx) (ts:List Expr) (t:TGs):Prop:=
 ∀ (pins:List (Addr×Obj)) (s:Shared) (σ:St) (H:Hp) (vs:List V) (us:List Value) (Q:St->Hp->Prop),Inv X pins σ H s->zaM vs us->t vs σ H Q->
  wpAny (model X.prog X.w) X.A (assignInOrder ((assignEach ts X.env).map (·.2)) us) (fun _ s'=> ∃ σ' H',Inv X pins σ' H' s'/\Q σ' H') X.xe s
noncomputable abbrev zoP:=V->V->V->Hp->(Hp->Prop)->Prop
def zox (X:Cx) (t:zoP):Prop:=
 ∀ (pins:List (Addr×Obj)) (s:Shared) (σ:St) (H:Hp) (o i v:V) (ov iv u:Value) (Q:Hp->Prop),Inv X pins σ H s->zbk o ov->zbk i iv->zbk v u->t o i v H Q->
  wpAny (model X.prog X.w) X.A (setItem ov iv u) (fun _ s'=> ∃ H',Inv X pins σ H' s'/\Q H') X.xe s
section
variable {X:Cx} {pos:Pos}
noncomputable def zn5 (i:Nat):TG:=fun v σ H Q=>Q (σ.set i (some v)) H
theorem zoh {i:Nat} {x:Str} (hN:X.N.Nodup) (hi:X.N[i]? = some x) (hx:Loc X.env.scope x) (hf:X.fn x=true\/X.env.scope.names.lookup x=some .local:=by first | exact .inl rfl | exact .inr rfl | assumption):PG X (.Name x pos) (zn5 i):=by
 intro pins s σ H v u Q I r h
 exact wpAny_assign_Name (zfj I hN hi hx r (fun s' I'=>⟨_,H,I',h⟩) hf)
noncomputable def zsz:TGs:=fun vs σ H Q=>vs=[]/\Q σ H
noncomputable def zq5 (t:TG) (u:TGs):TGs:=fun vs σ H Q=> ∃ v r,vs=v::r/\t v σ H fun σ' H'=>u r σ' H' Q
theorem zop:PGs X [] zsz:=by
 intro pins s σ H vs us Q I r h
 obtain ⟨e,h⟩:=h
 subst e
 cases r
 exact assignInOrder_nil ⟨σ,H,I,h⟩
theorem zk4 {e:Expr} {es:List Expr} {t:TG} {u:TGs} (h1:PG X e t) (h2:PGs X es u)
  (hs:(assignEach (e::es) X.env).map (·.2)=assign e X.env::(assignEach es X.env).map (·.2):=by rfl):PGs X (e::es) (zq5 t u):=by
 intro pins s σ H vs us Q I r h
 obtain ⟨v,vr,e1,h⟩:=h
 subst e1
 cases r with
 | cons r rr=>
  rw [hs]
  refine assignInOrder_cons (thn (h1 pins s σ H _ _ _ I r h) fun _ s1 ⟨σ1,H1,I1,q1⟩=> ?_)
  exact h2 pins s1 σ1 H1 _ _ Q I1 rr q1
noncomputable def zsC (K:W.Frag) (n:Nat) (t:TGs):TG:=fun v σ H Q=> ∃ a xs,v= .ref a/\SqT K H a xs/\xs.length=n/\t xs σ H Q
theorem zqF {es:List Expr} {k:Nat} {t:TGs} {n:Nat} (hc:X.calm=true) (h:PGs X es t)
  (hn:(assignEach es X.env).length=n:=by rfl) (hst:(assignEach es X.env).findIdx? (·.1)=none:=by rfl):PG X (.Tuple es k pos) (zsC X.K n t):=by
 intro pins s σ H v u Q I r hw
 obtain ⟨a,xs,e1,hq,hl,hw⟩:=hw
 subst e1
 cases r
 obtain ⟨its,rv,ht,hz⟩:=I.tuple hq
 refine assign_Tuple_tuple (I.ok.hd hc) ht (by simp [hn, <-hl,rv.length]) hst fun h' hx=> ?_
 have I1:Inv X pins σ H {s with heap:=h'}:=I.kept (t':=s.toks) fun b o e=>hx b o (qaR (qaQ e)) e
 exact h pins _ σ H xs _ Q I1 (by simpa using rv) hw
noncomputable def zsc (to ti:TE) (t:zoP):TG:=fun v σ H Q=>to σ H fun o H1=>ti σ H1 fun i H2=>t o i v H2 fun H3=>Q σ H3
theorem zqC {o i:Expr} {to ti:TE} {t:zoP} (ho:PE X o to) (hi:PE X i ti) (hs:zox X t)
  (ha: ∀ v,assign (.Subscript o i pos) X.env v=(do
    let ov<-holding [v] (eval o X.env)
    let iv<-holding [v,ov] (eval i X.env)
    standAt pos
    holding [v,ov,iv] (setItem ov iv v)
    release [v,ov,iv] []):=by intro _;rfl):PG X (.Subscript o i pos) (zsc to ti t):=by
 intro pins s σ H v u Q I r h
 rw [ha]
 refine qaW (qaO (thn (ho pins s σ H _ I h) fun ov s1 ⟨x,H1,I1,r1,q1⟩=> ?_))
 refine qaW (qaO (thn (hi pins s1 σ H1 _ I1 q1) fun iv s2 ⟨y,H2,I2,r2,q2⟩=> ?_))
 refine qaW (wpAny_standAt (qaW (qaO (thn (hs pins s2 σ H2 x y v ov iv u _ I2 r1 r2 r q2) fun _ s3 ⟨H3,I3,q3⟩=> ?_))))
 exact wpAny_release ⟨σ,H3,I3,q3⟩
noncomputable def zq4 (te:TE) (g:TG):TS:=fun D σ H=>te σ H fun x H1=>g x σ H1 D.nx
theorem zpr {tg e:Expr} {te:TE} {g:TG} (he:PE X e te) (hg:PG X tg g) (hs:swapsWithSole [tg] e pos.line X.env=pure false:=by rfl) (hw:swappedStores [tg] e X.env=pure none:=by rfl)
  (h1:(assignEach [tg] X.env).map (·.2)=[assign tg X.env]:=by rfl):PS X (.Assign [tg] e pos) (zq4 te g):=by
 intro pins s σ H D I h
 refine wpAny_Assign_stores (thn (he pins s σ H _ I h) fun v s1 ⟨x,H1,I1,r1,q1⟩=> ?_) hs hw
 rw [h1]
 exact thn (hg pins s1 σ H1 x v _ I1 r1 q1) fun _ s2 q=>q
theorem zpp {i:Nat} {x:Str} {e:Expr} {te:TE} {pos':Pos} (hN:X.N.Nodup) (hi:X.N[i]? = some x) (hx:Loc X.env.scope x) (he:PE X e te) (hs:swapsWith e (some (.Name x pos')) pos.line X.env=pure false:=by rfl) (hf:X.fn x=true\/X.env.scope.names.lookup x=some .local:=by first | exact .inl rfl | exact .inr rfl | assumption):
  PS X (.Assign [.Name x pos'] e pos) (zq4 te (zn5 i)):=by
 intro pins s σ H D I h
 refine wpAny_Assign_Name (thn (he pins s σ H _ I h) fun v s1 ⟨y,H1,I1,r1,q1⟩=> ?_) hs
 exact zfj I1 hN hi hx r1 (fun s2 I2=>⟨_,H1,I2,q1⟩) hf
end
section
variable {X:Cx} {pos:Pos}
end
structure It where
 go:Nat->Hp->Prop
 yld:Nat->Hp->V->Hp->Prop
 stop:Nat->Hp->Prop
def zhG (X:Cx) (pins:List (Addr×Obj)) (H:Hp) (b:Addr):Prop:=
 H b=none/\b≠X.env.locals/\b∉X.fs/\(b∈X.ex\/X.s₀.heap.objs.size<=b)/\(∀ x c,X.env.cells.lookup x=some c->c≠b)/\ ∀ p∈X.pn++pins,p.1≠b
theorem Inv.fpOk {X:Cx} {pins:List (Addr×Obj)} {σ:St} {H H':Hp} {s:Shared} {b:Addr} (I:Inv X pins σ H s) (hb:s.heap.objs.size<=b) (hn:H' b=none):zhG X pins H' b:=by
 refine ⟨hn,Nat.ne_of_gt (qaw I.lt hb),I.nofs hb,.inr (qaS I.sz hb),fun x c e z=> ?_,fun p hp z=> ?_⟩
 ·obtain ⟨v,q⟩:=I.cell x c e
  exact absurd (qaw q.lt (by rw [z];exact hb)) (qaN _)
 ·exact absurd (qaw (qaQ (I.pin p hp).1) (by rw [z];exact hb)) (qaN _)
structure zow (P:Program) (w:World) (K:W.Frag) (tg:Expr) (J:It) (fp:List Addr) (it:Addr) (tn:Nat->Heap->Prop):Prop where
 mem:it∈fp
 obj: ∀ i h,tn i h-> ∀ b∈fp, ∃ o,h.get? b=some o/\ ∀ v,o.data≠ .cell v
 keep: ∀ i h h',tn i h->(∀ b∈fp, ∀ o,h.get? b=some o->h'.get? b=some o)->tn i h'
 item: ∀ (X:Cx),X.prog=P->X.w=w->X.K=K-> ∀ (i:Nat) (pins:List (Addr×Obj)) (s:Shared) (σ:St) (H:Hp) (E:Value->Shared->Prop),Inv X pins σ H s->(∀ b∈fp,zhG X pins H b)->tn i s.heap->J.go i H->
  wpAny (model P w) X.A (pyNext (.ref it)) (fun r s1=> ∃ u,r=some u/\
    wpAny (model P w) X.A (letOwnedTupleGo tg (.ref it) u) (fun _ s2=> ∃ x H',Inv X pins σ H' s2/\zbk x u/\J.yld i H x H'/\tn (i+1) s2.heap/\ ∀ b∈fp,H' b=none) E s1) E s
 done: ∀ (X:Cx),X.prog=P->X.w=w->X.K=K-> ∀ (i:Nat) (pins:List (Addr×Obj)) (s:Shared) (σ:St) (H:Hp) (E:Value->Shared->Prop),Inv X pins σ H s->(∀ b∈fp,zhG X pins H b)->tn i s.heap->J.stop i H->
  wpAny (model P w) X.A (pyNext (.ref it)) (fun r s1=>r=none/\Inv X pins σ H s1) E s
 self: ∀ (A:Around) (i:Nat) (s:Shared) (Q:Value->Shared->Prop) (E:Value->Shared->Prop),tn i s.heap->Q (.ref it) s->wpAny (model P w) A (pyIter (.ref it)) Q E s
noncomputable abbrev TI:=St->Hp->(It->Hp->Prop)->Prop
def PIE (X:Cx) (pins:List (Addr×Obj)) (σ:St) (tg:Expr) (R:It->Hp->Prop) (itv:Value) (s2:Shared):Prop:=
 ∃ (it:Addr) (fp:List Addr) (tn:Nat->Heap->Prop) (J:It) (H':Hp),itv= .ref it/\Inv X pins σ H' s2/\zow X.prog X.w X.K tg J fp it tn/\tn 0 s2.heap/\(∀ b∈fp,zhG X pins H' b)/\R J H'
def PI (X:Cx) (tg iter:Expr) (wi:TI):Prop:=
 ∀ (pins:List (Addr×Obj)) (s:Shared) (σ:St) (H:Hp) (R:It->Hp->Prop),Inv X pins σ H s->wi σ H R->
  wpAny (model X.prog X.w) X.A (eval iter X.env) (fun v s1=>wpAny (model X.prog X.w) X.A (pyIter v) (PIE X pins σ tg R) X.xe s1) X.xe s
theorem zn0 {M:Model} {A:Around} {E:Value->Shared->Prop} {s:Shared} {tg:Expr} {it:Addr} {u:Value} {o:Obj} {n:String} {vs:Array Value} {Q:Unit->Shared->Prop} (ho:s.heap.get? it=some o) (hc:o.cls= .type n) (hd:o.data= .fields vs)
  (hn:["enumerate","zip","dict_itemiterator","dict_reverseitemiterator","odict_iterator","itertools.zip_longest","itertools.pairwise"].contains n=false) (hQ:Q () s):wpAny M A (letOwnedTupleGo tg (.ref it) u) Q E s:=by
 unfold letOwnedTupleGo
 cases tg<;>first
  | exact qaX hQ
  | (cases u<;>first
      | exact qaX hQ
      | (refine qaW (wpAny_load ho ?_)
         rw [hc,hd]
         show wpAny M A (if (["enumerate","zip","dict_itemiterator","dict_reverseitemiterator","odict_iterator","itertools.zip_longest","itertools.pairwise"].contains n && vs[0]? == some (rawInt _))=true then _ else _) Q E s
         rw [qa5 (by intro h;rw [hn,Bool.false_and] at h;cases h)]
         exact qaX hQ))
noncomputable def Itl (K:W.Frag) (a:Addr):It:=
 ⟨fun i H=> ∃ xs x,SqL K H a xs/\xs[i]? = some x,fun i H x H'=>H'=H/\ ∀ xs,SqL K H a xs->xs[i]? = some x,fun i H=> ∃ xs,SqL K H a xs/\xs.length<=i⟩
noncomputable def Itt (K:W.Frag) (a:Addr):It:=
 ⟨fun i H=> ∃ xs x,SqT K H a xs/\xs[i]? = some x,fun i H x H'=>H'=H/\ ∀ xs,SqT K H a xs->xs[i]? = some x,fun i H=> ∃ xs,SqT K H a xs/\xs.length<=i⟩
noncomputable def Itr (lo:Int) (n:Nat):It:=⟨fun i _=>i<n,fun i H x H'=>H'=H/\x= .int (lo+i),fun i _=>n<=i⟩
theorem zf9.keep {A:Around} {H H':Hp} (x:zf9 A H) (k: ∀ b o u,H b=some (.frz o u)->H' b=some (.frz o u)):zf9 A H':=by
 rcases x with x | ⟨a,o,cls,head,vs,x1,x2,x3⟩
 ·exact .inl x
 ·exact .inr ⟨a,o,cls,head,vs,x1,k _ _ _ x2,x3⟩
theorem zf9.at_ {A:Around} {P:Program} {w:World} {H:Hp} {h:Heap} (x:zf9 A H) (ok:HOk P w H h):L3.zkp A h:=by
 rcases x with x | ⟨a,o,cls,head,vs,x1,x2,x3⟩
 ·exact .inl x
 ·exact .inr ⟨a,cls,head,x1,o,vs,(ok a _ x2).1,x3⟩
theorem Inv.handA {X:Cx} {pins:List (Addr×Obj)} {σ:St} {H:Hp} {s:Shared} (I:Inv X pins σ H s):zf9 X.A H:=I.ok.hx.keep I.base.frzs
theorem Inv.hand {X:Cx} {pins:List (Addr×Obj)} {σ:St} {H:Hp} {s:Shared} (I:Inv X pins σ H s):L3.zkp X.A s.heap:=I.handA.at_ I.hok
theorem zkD {P:Program} {w:World} {K:W.Frag} {tg:Expr} (a it:Addr):zow P w K tg (Itl K a) [it] it (fun i h=>h.IsListIter it a i) where
 mem:=by simp
 obj:=fun i h st b hb=>by
  have e:b=it:=by simpa using hb
  subst e
  obtain ⟨o,e,c,d⟩:=st
  exact ⟨o,e,fun v z=>by rw [d] at z;cases z⟩
 keep:=fun i h h' st k=>st.at fun o e=>k it (by simp) o e
 item:=by
  intro X hP hw hK i pins s σ H E I hf st hg
  subst hP hw hK
  obtain ⟨xs,x,hq,hx⟩:=hg
  obtain ⟨its,rv,p,hz⟩:=I.list hq
  obtain ⟨u,hu,ru⟩:=rv.get hx
  obtain ⟨f0,f1,f2,f3,f4,f5⟩:=hf it (by simp)
  refine wpAny_pyNext_list_item st p.isList (x:=u) (by simpa using hu) fun h' st' sb=> ?_
  have I1:Inv X pins σ H {s with heap:=h'}:=I.turned (t':=s.toks) (fun b o hb e=>(sb.2 b hb).trans e) f0 f1 f3 f4 f5
  obtain ⟨o,e,c,d⟩:=id st'
  exact ⟨u,rfl,zn0 (s:={s with heap:=h'}) e c d (by decide) ⟨x,H,I1,ru,⟨rfl,fun ys hy=>by rw [I.list_inj hy hq];exact hx⟩,st',fun b hb=>(hf b hb).1⟩⟩
 done:=by
  intro X hP hw hK i pins s σ H E I hf st hg
  subst hP hw hK
  obtain ⟨xs,hq,hx⟩:=hg
  obtain ⟨its,rv,p,hz⟩:=I.list hq
  obtain ⟨f0,f1,f2,f3,f4,f5⟩:=hf it (by simp)
  have hl:=rv.length
  exact L3.zhW I.hand st p.isList (by simp;omega) fun h' eb=>⟨rfl,I.turned (t':=s.toks) (fun b o hb e=>eb b o hb e) f0 f1 f3 f4 f5⟩
 self:=fun _ _ _ _ _ st h=>wpAny_pyIter_listiter st h
theorem zij {P:Program} {w:World} {K:W.Frag} {tg:Expr} (a it:Addr):zow P w K tg (Itt K a) [it] it (fun i h=>h.IsTupleIter it a i) where
 mem:=by simp
 obj:=fun i h st b hb=>by
  have e:b=it:=by simpa using hb
  subst e
  obtain ⟨o,e,c,d⟩:=st
  exact ⟨o,e,fun v z=>by rw [d] at z;cases z⟩
 keep:=fun i h h' st k=>st.at fun o e=>k it (by simp) o e
 item:=by
  intro X hP hw hK i pins s σ H E I hf st hg
  subst hP hw hK
  obtain ⟨xs,x,hq,hx⟩:=hg
  obtain ⟨its,rv,p,hz⟩:=I.tuple hq
  obtain ⟨u,hu,ru⟩:=rv.get hx
  obtain ⟨f0,f1,f2,f3,f4,f5⟩:=hf it (by simp)
  refine wpAny_pyNext_tuple_item st (show s.heap.IsTuple a its.toArray from p) (x:=u) (by simpa using hu) fun h' st' sb=> ?_
  have I1:Inv X pins σ H {s with heap:=h'}:=I.turned (t':=s.toks) (fun b o hb e=>(sb.2 b hb).trans e) f0 f1 f3 f4 f5
  obtain ⟨o,e,c,d⟩:=id st'
  exact ⟨u,rfl,zn0 (s:={s with heap:=h'}) e c d (by decide) ⟨x,H,I1,ru,⟨rfl,fun ys hy=>by rw [I.tuple_inj hy hq];exact hx⟩,st',fun b hb=>(hf b hb).1⟩⟩
 done:=by
  intro X hP hw hK i pins s σ H E I hf st hg
  subst hP hw hK
  obtain ⟨xs,hq,hx⟩:=hg
  obtain ⟨its,rv,p,hz⟩:=I.tuple hq
  obtain ⟨f0,f1,f2,f3,f4,f5⟩:=hf it (by simp)
  have hl:=rv.length
  exact L3.zjP I.hand st (show s.heap.IsTuple a its.toArray from p) (by simp;omega) fun h' eb=>⟨rfl,I.turned (t':=s.toks) (fun b o hb e=>eb b o hb e) f0 f1 f3 f4 f5⟩
 self:=fun _ _ _ _ _ st h=>wpAny_pyIter_tupleiter st h
theorem ziJ {P:Program} {w:World} {K:W.Frag} {tg:Expr} (it:Addr) (lo:Int) (n:Nat):zow P w K tg (Itr lo n) [it] it (fun i h=>IsRangeIter h it (lo+(i:Nat)*1) ((n:Int) - (i:Nat)) 1) where
 mem:=by simp
 obj:=fun i h st b hb=>by
  have e:b=it:=by simpa using hb
  subst e
  exact ⟨_,st,fun v z=>by
    have z':Data.fields _=Data.cell v:=z
    cases z'⟩
 keep:=fun i h h' st k=>k it (by simp) _ st
 item:=by
  intro X hP hw hK i pins s σ H E I hf st hg
  subst hP hw hK
  obtain ⟨f0,f1,f2,f3,f4,f5⟩:=hf it (by simp)
  refine wpAny_pyNext_range_item st (by have:i<n:=hg;omega) fun h' st' kk=> ?_
  have e1:lo+(i:Nat)*1+1=lo+((i+1:Nat):Int)*1:=by omega
  have e2:(n:Int) - (i:Nat) - 1=(n:Int) - ((i+1:Nat):Int):=by omega
  rw [e1,e2] at st'
  have I1:Inv X pins σ H {s with heap:=h',toks:=s.toks+1}:=I.turned (fun b o hb e=>(kk.2 b hb).trans e) f0 f1 f3 f4 f5
  refine ⟨_,rfl,zn0 (s:={s with heap:=h',toks:=s.toks+1}) (n:="range_iterator") st' rfl rfl (by decide) ⟨.int (lo+i),H,I1,⟨s.toks,?_⟩,⟨rfl,rfl⟩,st',fun b hb=>(hf b hb).1⟩⟩
  rw [Int.mul_one]
 done:=by
  intro X hP hw hK i pins s σ H E I hf st hg
  subst hP hw hK
  obtain ⟨f0,f1,f2,f3,f4,f5⟩:=hf it (by simp)
  exact L3.zkk I.hand st (by have:n<=i:=hg;omega) fun h' eb=>⟨rfl,I.turned (t':=s.toks) (fun b o hb e=>eb b o hb e) f0 f1 f3 f4 f5⟩
 self:=fun _ _ _ _ _ st h=>wpAny_pyIter_rangeiter st h
section
variable {X:Cx} {tg:Expr}
theorem zlc {pins:List (Addr×Obj)} {σ:St} {H:Hp} {s:Shared} {R:It->Hp->Prop} {E:Value->Shared->Prop} {lo hi:Int} {t u v:Tok} {tk:Nat} (I:Inv X pins σ H s) (h1: -(2^62)<=lo) (h2:lo<2^62) (h3: -(2^62)<=hi) (h4:hi<2^62)
  (q:R (Itr lo (hi - lo).toNat) H):wpAny (model X.prog X.w) X.A (pyIter (.ref s.heap.objs.size)) (PIE X pins σ tg R) E {s with heap:=s.heap.push {cls:= .type "range",data:= .fields #[.int lo t,.int hi u,.int 1 v]},toks:=tk}:=by
 refine wpAny_pyIter_range (IsRange.new ..) (small_one h1 h2 h3 h4) ?_
 have I1:Inv X pins σ H {s with heap:=s.heap.push {cls:= .type "range",data:= .fields #[.int lo t,.int hi u,.int 1 v]},toks:=tk}:=I.kept fun b o e=>qag _ e
 refine ⟨(s.heap.push {cls:= .type "range",data:= .fields #[.int lo t,.int hi u,.int 1 v]}).objs.size,[(s.heap.push {cls:= .type "range",data:= .fields #[.int lo t,.int hi u,.int 1 v]}).objs.size],_,_,H,rfl,
   I1.kept (t':=tk) fun b o e=>qag _ e,ziJ _ lo (hi - lo).toNat,?_,fun b hb=> ?_,q⟩
 ·have e1:lo+((0:Nat):Int)*1=lo:=by simp
  have e2:(((hi - lo).toNat:Nat):Int) - ((0:Nat):Int)=Builtin.Range.rangeSize lo hi 1:=by rw [rangeSize_one];split<;>omega
  show IsRangeIter _ _ (lo+((0:Nat):Int)*1) ((((hi - lo).toNat:Nat):Int) - ((0:Nat):Int)) 1
  rw [e1,e2]
  exact qar _ rfl
 ·have e:b=(s.heap.push {cls:= .type "range",data:= .fields #[.int lo t,.int hi u,.int 1 v]}).objs.size:=by simpa using hb
  subst e
  exact I1.fpOk (qaV _) (I1.hok.fresh (qaV _))
noncomputable def zq6 (ta:TA):TI:=fun σ H R=>ta σ H fun vs H1=> ∃ j:Int,vs=[.int j]/\ -(2^62)<=j/\j<2^62/\R (Itr 0 j.toNat) H1
theorem zj1 {a:Expr} {ta:TA} {p pos:Pos} (hg:Gl X "range") (hm:X.mg "range"=none) (ha:PA X [a] ta) (hs:starEach [a] X.env=[(false,eval a X.env)]:=by rfl):PI X tg (.Call (.Name "range" p) [a] [] pos) (zq6 ta):=by
 intro pins s σ H R I h
 refine Call_ (zgj I hg hm boot_range (PyProof.Rows.callWith_type1 (thn (ha pos pins s σ H _ I h) fun us s1 ⟨vs,H1,I1,r1,q1⟩=> ?_) hs rfl))
 obtain ⟨j,e,q1,q2,q⟩:=q1
 subst e
 cases r1 with
 | cons r rr=>
  cases rr
  obtain ⟨t,rfl⟩:=r
  exact call_range_1 (zlc I1 (by omega) (by omega) q1 q2 (by simpa using q))
noncomputable def zsp (wi:TI) (g:TG) (tb:TS):TS:=fun D σ H=>wi σ H fun J H1=> ∃ W:Nat->Nat->St->Hp->Prop,(∃ m,W 0 m σ H1)/\ ∀ i m σ H,W i m σ H->
 (J.stop i H/\D.nx σ H)\/(J.go i H/\ ∃ N:St->Hp->Prop,(∀ σ' H',N σ' H'-> ∃ m',m'<m/\W (i+1) m' σ' H')/\ ∀ x H',J.yld i H x H'->g x σ H' fun σ2 H2=>tb {D with nx:=N,ct:=N,bk:=D.nx} σ2 H2)
noncomputable def zf3 (fp:List Addr) (h:Heap):List (Addr×Obj):=fp.filterMap fun b=>(h.get? b).map fun o=>(b,o)
theorem zcD {fp:List Addr} {h:Heap} {b:Addr} {o:Obj} (hb:b∈fp) (e:h.get? b=some o):(b,o)∈zf3 fp h:=List.mem_filterMap.mpr ⟨b,hb,by rw [e];rfl⟩
theorem ziZ {fp:List Addr} {h:Heap} {p:Addr×Obj} (hp:p∈zf3 fp h):p.1∈fp/\h.get? p.1=some p.2:=by
 obtain ⟨b,hb,e⟩:=List.mem_filterMap.mp hp
 cases q:h.get? b with
 | none=>rw [q] at e;cases e
 | some o=>
  rw [q] at e
  have e':(b,o)=p:=Option.some.inj e
  subst e'
  exact ⟨hb,q⟩
theorem Inv.pinned {pins:List (Addr×Obj)} {σ:St} {H:Hp} {s:Shared} {fp:List Addr} (I:Inv X pins σ H s) (hf: ∀ b∈fp,zhG X pins H b) (ho: ∀ b∈fp, ∃ o,s.heap.get? b=some o/\ ∀ v,o.data≠ .cell v):Inv X (pins++zf3 fp s.heap) σ H s:=
 I.pins_of fun p hp=>(qaK.mp hp).elim (fun z=>I.pin p (qak _ z)) fun z=>by
  obtain ⟨hb,e⟩:=ziZ z
  obtain ⟨f0,f1,f2,_⟩:=hf p.1 hb
  obtain ⟨o,e',d⟩:=ho p.1 hb
  rw [e] at e';cases e'
  exact ⟨e,f0,f1,f2,d⟩
theorem Inv.unpinned {pins pl:List (Addr×Obj)} {σ:St} {H:Hp} {s:Shared} (I:Inv X (pins++pl) σ H s):Inv X pins σ H s:=I.pins_of fun p hp=>I.pin p (qak _ (List.mem_append_left _ hp))
theorem zmt {iter:Expr} {body:List Stmt} {wi:TI} {g:TG} {tb:TS} {pos:Pos} (hp:PassesOwn (model X.prog X.w) X.A X.env X.xe) (hc:X.calm=true) (hi:PI X tg iter wi) (hg:PG X tg g) (hb:PSs X body tb)
  (hs: ∀ x,foldedSetIterable iter X.env x=pure x:=by intro _;rfl):PS X (.For tg iter body [] pos) (zsp wi g tb):=by
 intro pins s σ H D I h
 refine wpAny_For (thn (hi pins s σ H _ I h) fun v s1 h1=>thn h1 fun itv s2 h2=> ?_) hs
 obtain ⟨it,fp,tn,J,H2,e,I2,T,st2,f2,W,⟨m0,w0⟩,turn⟩:=h2
 subst e
 have stat: ∀ {H':Hp},(∀ b∈fp,H' b=none)-> ∀ b∈fp,zhG X pins H' b:=fun hn b hb=>⟨hn b hb,(f2 b hb).2⟩
 refine codeAny_forLoop_any (fun n s'=> ∃ i σ' H',Inv X pins σ' H' s'/\tn i s'.heap/\(∀ b∈fp,H' b=none)/\W i n σ' H') ?_ m0 ⟨0,σ,H2,I2,st2,fun b hb=>(f2 b hb).1,w0⟩
 rintro n s3 ⟨i,σ3,H3,I3,st3,fr3,w3⟩
 rcases turn i n σ3 H3 w3 with ⟨stop,qn⟩ | ⟨go,N,hN,step⟩
 ·refine wpAny_passesOwn hp (thn (T.done X rfl rfl rfl i pins s3 σ3 H3 X.xe I3 (stat fr3) st3 stop) fun r s4 ⟨hr,I4⟩=> ?_)
  subst hr
  exact wpAny_execs_nil ⟨σ3,H3,I4,qn⟩
 ·refine wpAny_passesOwn hp (thn (T.item X rfl rfl rfl i pins s3 σ3 H3 X.xe I3 (stat fr3) st3 go) fun r s4 ⟨u,hr,h4⟩=> ?_)
  subst hr
  refine wpAny_passesOwn hp (thn h4 fun _ s5 ⟨x,H5,I5,r5,y5,st5,fr5⟩=> ?_)
  have I5':=I5.pinned (stat fr5) (T.obj _ _ st5)
  refine wpAny_passesOwn hp (thn (hg _ s5 σ3 H5 x u _ I5' r5 (step x H5 y5)) fun _ s6 ⟨σ6,H6,I6,q6⟩=> ?_)
  refine wpAny_passesOwn hp (thn (hb _ s6 σ6 H6 _ I6 q6) fun f s7 q7=> ?_)
  have again: ∀ {σ7:St} {H7:Hp},Inv X (pins++zf3 fp s5.heap) σ7 H7 s7->N σ7 H7-> ∃ m,m<n/\ ∃ i σ' H',Inv X pins σ' H' s7/\tn i s7.heap/\(∀ b∈fp,H' b=none)/\W i m σ' H':=fun {σ7 H7} I7 n7=>by
   obtain ⟨m',hm,w7⟩:=hN σ7 H7 n7
   refine ⟨m',hm,i+1,σ7,H7,I7.unpinned,T.keep _ _ _ st5 fun b hb o e=>(I7.pin (b,o) (qak _ (qak _ (zcD hb e)))).1,fun b hb=> ?_,w7⟩
   obtain ⟨o,e,d⟩:=T.obj _ _ st5 b hb
   exact (I7.pin (b,o) (qak _ (qak _ (zcD hb e)))).2.1
  cases f with
  | next=>obtain ⟨σ7,H7,I7,n7⟩:=q7;exact again I7 n7
  | cont=>obtain ⟨σ7,H7,I7,n7⟩:=q7;exact again I7 n7
  | brk=>obtain ⟨σ7,H7,I7,q7⟩:=q7;exact ⟨σ7,H7,I7.unpinned,q7⟩
  | ret v=>obtain ⟨x7,σ7,H7,I7,r7,q7⟩:=q7;exact ⟨x7,σ7,H7,I7.unpinned,r7,q7⟩
end
noncomputable abbrev R2:=V->V->Hp->VK->Prop
def OpR (X:Cx) (f:Value->Value->Sem Value) (r:R2):Prop:=
 ∀ (pins:List (Addr×Obj)) (s:Shared) (σ:St) (H:Hp) (x y:V) (v u:Value) (Q:VK),Inv X pins σ H s->zbk x v->zbk y u->r x y H Q->
  wpAny (model X.prog X.w) X.A (f v u) (EP X pins σ Q) X.xe s
def UnR (X:Cx) (f:Value->Sem Value) (r:V->Hp->VK->Prop):Prop:=
 ∀ (pins:List (Addr×Obj)) (s:Shared) (σ:St) (H:Hp) (x:V) (v:Value) (Q:VK),Inv X pins σ H s->zbk x v->r x H Q->
  wpAny (model X.prog X.w) X.A (f v) (EP X pins σ Q) X.xe s
def zaD (X:Cx) (f:Value) (r:List V->Hp->VK->Prop):Prop:=
 ∀ (pins:List (Addr×Obj)) (s:Shared) (σ:St) (H:Hp) (xs:List V) (us:List Value) (Q:VK),Inv X pins σ H s->zaM xs us->r xs H Q->
  wpAny (model X.prog X.w) X.A (call f us) (EP X pins σ Q) X.xe s
noncomputable def tOp (r:R2) (ta tb:TE):TE:=fun σ H Q=>ta σ H fun x H1=>tb σ H1 fun y H2=>r x y H2 Q
noncomputable def tUn (r:V->Hp->VK->Prop) (ta:TE):TE:=fun σ H Q=>ta σ H fun x H1=>r x H1 Q
noncomputable def rI (C:Int->Int->Prop) (g:Int->Int->V):R2:=fun x y H Q=> ∃ i j,x= .int i/\y= .int j/\C i j/\Q (g i j) H
noncomputable def rI0 (g:Int->Int->V):R2:=fun x y H Q=> ∃ i j,x= .int i/\y= .int j/\Q (g i j) H
noncomputable def rU (g:Int->V):V->Hp->VK->Prop:=fun x H Q=> ∃ i,x= .int i/\Q (g i) H
section
variable {X:Cx} {a b c:Expr} {ta tb tc:TE} {pos:Pos}
theorem zrL (ha:PE X a ta) (hb:PE X b tb) {pins:List (Addr×Obj)} {s:Shared} {σ:St} {H:Hp} {R:V->V->Hp->Prop} (I:Inv X pins σ H s)
  (h:ta σ H fun x H1=>tb σ H1 fun y H2=>R x y H2) {Q:Value->Shared->Prop} {f:Value->Value->Sem Value}
  (hf: ∀ v u s2 x y H2,Inv X pins σ H2 s2->zbk x v->zbk y u->R x y H2->wpAny (model X.prog X.w) X.A (f v u) Q X.xe s2):
  wpAny (model X.prog X.w) X.A (eval a X.env) (fun v s₁=>wpAny (model X.prog X.w) X.A (eval b X.env) (fun u s₂=>wpAny (model X.prog X.w) X.A (f v u) Q X.xe s₂) X.xe s₁) X.xe s:=by
 refine thn (ha pins s σ H _ I h) fun v s1 ⟨x,H1,I1,r1,q1⟩=> ?_
 refine thn (hb pins s1 σ H1 _ I1 q1) fun u s2 ⟨y,H2,I2,r2,q2⟩=> ?_
 exact hf v u s2 x y H2 I2 r1 r2 q2
theorem zrP {op:Operator} {r:R2} (ho:OpR X (binaryOp op) r) (ha:PE X a ta) (hb:PE X b tb):PE X (.BinOp a op b pos) (tOp r ta tb):=by
 intro pins s σ H Q I h
 exact wpAny_BinOp (zrL ha hb I h fun v u s2 x y H2 I2 rx ry q=>ho pins s2 σ H2 x y v u Q I2 rx ry q)
theorem zpY {op:UnaryOp} {r:V->Hp->VK->Prop} (ho:UnR X (unaryOp op) r) (ha:PE X a ta):PE X (.UnaryOp op a pos) (tUn r ta):=by
 intro pins s σ H Q I h
 exact UnaryOp_ (thn (ha pins s σ H _ I h) fun v s1 ⟨x,H1,I1,r1,q1⟩=>ho pins s1 σ H1 x v Q I1 r1 q1)
theorem opI {f:Value->Value->Sem Value} {C:Int->Int->Prop} {g:Int->Int->Int}
  (rule: ∀ (i j:Int) (t u:Tok) (s:Shared) (Q:Value->Shared->Prop) (E:Value->Shared->Prop),C i j->Q (.int (g i j) s.toks) {s with toks:=s.toks+1}->wpAny (model X.prog X.w) X.A (f (.int i t) (.int j u)) Q E s):
  OpR X f (rI C fun i j=> .int (g i j)):=by
 intro pins s σ H x y v u Q I rx ry h
 obtain ⟨i,j,rfl,rfl,hc,q⟩:=h
 obtain ⟨t,rfl⟩:=rx
 obtain ⟨t',rfl⟩:=ry
 exact rule i j t t' s _ _ hc ⟨.int (g i j),H,I.tok _,⟨_,rfl⟩,q⟩
theorem zrY {f:Value->Value->Sem Value} {g:Int->Int->Int}
  (rule: ∀ (i j:Int) (t u:Tok) (s:Shared) (Q:Value->Shared->Prop) (E:Value->Shared->Prop),Q (.int (g i j) s.toks) {s with toks:=s.toks+1}->wpAny (model X.prog X.w) X.A (f (.int i t) (.int j u)) Q E s):
  OpR X f (rI0 fun i j=> .int (g i j)):=by
 intro pins s σ H x y v u Q I rx ry h
 obtain ⟨i,j,rfl,rfl,q⟩:=h
 obtain ⟨t,rfl⟩:=rx
 obtain ⟨t',rfl⟩:=ry
 exact rule i j t t' s _ _ ⟨.int (g i j),H,I.tok _,⟨_,rfl⟩,q⟩
theorem zsF {f:Value->Value->Sem Value} {g:Int->Int->Bool}
  (rule: ∀ (i j:Int) (t u:Tok) (s:Shared) (Q:Value->Shared->Prop) (E:Value->Shared->Prop),Q (.bool (g i j)) s->wpAny (model X.prog X.w) X.A (f (.int i t) (.int j u)) Q E s):
  OpR X f (rI0 fun i j=> .bl (g i j)):=by
 intro pins s σ H x y v u Q I rx ry h
 obtain ⟨i,j,rfl,rfl,q⟩:=h
 obtain ⟨t,rfl⟩:=rx
 obtain ⟨t',rfl⟩:=ry
 exact rule i j t t' s _ _ ⟨.bl (g i j),H,I,rfl,q⟩
def zqV (i j:Int):Prop:=0<=j/\j<=1000000/\i.natAbs<2^64
def zr4 (i j:Int):Prop:=(-(2^64)<i/\i<2^64)\/(-(2^64)<j/\j<2^64)
theorem zr4.ok {i j:Int} (h:zr4 i j):IntMulOk i j:=by
 rcases h with ⟨h1,h2⟩ | ⟨h1,h2⟩
 ·exact .of_left (intBits_le_64 h1 h2)
 ·exact .of_right (intBits_le_64 h1 h2)
theorem two_pow_nn (k:Nat):(0:Int)<=2^k:=by
 rw [two_pow_cast]
 exact Int.natCast_nonneg _
theorem zpe:OpR X (binaryOp .Add) (rI0 fun i j=> .int (i+j)):=zrY fun _ _ _ _ _ _ _ q=>add_int q
theorem zoD:OpR X (binaryOp .Sub) (rI0 fun i j=> .int (i - j)):=zrY fun _ _ _ _ _ _ _ q=>sub_int q
theorem zoO:OpR X (binaryOp .Mult) (rI zr4 fun i j=> .int (i*j)):=opI fun _ _ _ _ _ _ _ hc q=>mul_int q hc.ok
theorem zqO:OpR X (binaryOp .Mod) (rI (fun _ j=>0<j) fun i j=> .int (i % j)):=opI fun i j _ _ _ _ _ hc q=>by
 have h1:(0:Int)<j:=hc
 exact mod_int' (by omega) (by rw [Int.fmod_eq_emod_of_nonneg i (by omega)];exact q)
theorem zoV:OpR X (binaryOp .Pow) (rI zqV fun i j=> .int (i^j.toNat)):=opI fun _ _ _ _ _ _ _ hc q=>pow_int_small hc.1 hc.2.1 hc.2.2 q
theorem zoF:OpR X (binaryOp .LShift) (rI zqV fun i j=> .int (i*2^j.toNat)):=opI fun _ _ _ _ _ _ _ hc q=>lshift_int_small hc.1 hc.2.1 hc.2.2 q
theorem zoJ:OpR X (binaryOp .RShift) (rI (fun _ j=>0<=j) fun i j=> .int (i / 2^j.toNat)):=opI fun i j _ _ _ _ _ hc q=>
 rshift_int hc (by rw [Int.fdiv_eq_ediv_of_nonneg i (two_pow_nn _)];exact q)
theorem zqN:OpR X (binaryOp .BitAnd) (rI0 fun i j=> .int (Builtin.bitAnd i j)):=zrY fun _ _ _ _ _ _ _ q=>and_int q
theorem unI {f:Value->Sem Value} {g:Int->Int}
  (rule: ∀ (i:Int) (t:Tok) (s:Shared) (Q:Value->Shared->Prop) (E:Value->Shared->Prop),Q (.int (g i) s.toks) {s with toks:=s.toks+1}->wpAny (model X.prog X.w) X.A (f (.int i t)) Q E s):
  UnR X f (rU fun i=> .int (g i)):=by
 intro pins s σ H x v Q I rx h
 obtain ⟨i,rfl,q⟩:=h
 obtain ⟨t,rfl⟩:=rx
 exact rule i t s _ _ ⟨.int (g i),H,I.tok _,⟨_,rfl⟩,q⟩
theorem zl8:UnR X (unaryOp .USub) (rU fun i=> .int (-i)):=unI fun _ _ _ _ _ q=>neg_int q
end
section
variable {X:Cx} {a b c:Expr} {ta tb tc:TE} {pos:Pos}
theorem zoL {pins:List (Addr×Obj)} {σ:St} {H:Hp} {s:Shared} {Q:VK} {k k':Bool} (I:Inv X pins σ H s) (q:Q (.bl k) H) (e:k=k'):EP X pins σ Q (.bool k') s:=by
 subst e
 exact ⟨.bl k,H,I,rfl,q⟩
theorem zrd:OpR X (compareOp .Lt) (rI0 fun i j=> .bl (decide (i<j))):=zsF fun _ _ _ _ _ _ _ q=>lt_int q
theorem OpR.or {f:Value->Value->Sem Value} {r r':R2} (h:OpR X f r) (h':OpR X f r'):OpR X f (fun x y H Q=>r x y H Q\/r' x y H Q):=by
 intro pins s σ H x y v u Q I rx ry q
 rcases q with q | q
 ·exact h pins s σ H x y v u Q I rx ry q
 ·exact h' pins s σ H x y v u Q I rx ry q
theorem zm2 {op:CmpOp} {r:R2} (ho:OpR X (compareOp op) r) (ha:PE X a ta) (hb:PE X b tb) (hm:behindInMarks op b=false):PE X (.Compare a [op] [b] pos) (tOp r ta tb):=by
 intro pins s σ H Q I h
 exact wpAny_Compare1 (zrL ha hb I h fun v u s2 x y H2 I2 rx ry q=>ho pins s2 σ H2 x y v u Q I2 rx ry q) hm
noncomputable def zrK (t:TE):TT:=fun σ H Q=>t σ H fun x H'=> ∃ k,x= .bl k/\Q k H'
theorem zna {op:CmpOp} {r:R2} (ho:OpR X (compareOp op) r) (ha:PE X a ta) (hb:PE X b tb) (hm:behindInMarks op b=false):PT X (.Compare a [op] [b] pos) (zrK (tOp r ta tb)):=by
 intro pins s σ H Q I h
 refine wpAny_isTrue_Compare1 (thn (ha pins s σ H _ I h) fun v s1 ⟨x,H1,I1,r1,q1⟩=>thn (hb pins s1 σ H1 _ I1 q1) fun u s2 ⟨y,H2,I2,r2,q2⟩=>
   thn (ho pins s2 σ H2 x y v u _ I2 r1 r2 q2) fun c s3 ⟨z,H3,I3,r3,k,e,q3⟩=> ?_) hm
 subst e
 cases r3
 exact wpAny_truthy_bool ⟨H3,I3,q3⟩
theorem zhF:(sizeLine:Nat)<2^63:=by rw [sizeLine_eq];decide
theorem zit:OpR X (binaryOp .Add) (fun x y H Q=> ∃ i j,x= .str i/\y= .str j/\i.length+j.length<=sizeLine/\Q (.str (i++j)) H):=by
 intro pins s σ H x y v u Q I rx ry h
 obtain ⟨i,j,rfl,rfl,hz,q⟩:=h
 obtain ⟨t,rfl⟩:=rx
 obtain ⟨t',rfl⟩:=ry
 exact add_str (fun t' tk=>⟨.str (i++j),H,I.tok _,⟨_,rfl⟩,q⟩) hz
theorem zcI {x:V} {us:List Value} (r:zaM [x] us): ∃ u,us=[u]/\zbk x u:=by
 cases r with
 | cons r1 r2=>cases r2;exact ⟨_,rfl,r1⟩
theorem zlN {x y:V} {us:List Value} (r:zaM [x,y] us): ∃ u w',us=[u,w']/\zbk x u/\zbk y w':=by
 cases r with
 | cons r1 r2=>
  cases r2 with
  | cons r3 r4=>cases r4;exact ⟨_,_,rfl,r1,r3⟩
theorem zkf (hc:X.calm=true):zaD X (.builtin "max") (fun xs H Q=> ∃ i j,xs=[.int i,.int j]/\Q (.int (if j>i then j else i)) H):=by
 intro pins s σ H xs us Q I r h
 obtain ⟨i,j,rfl,q⟩:=h
 obtain ⟨u,w',rfl,⟨t,rfl⟩,⟨t',rfl⟩⟩:=zlN r
 refine max_two_ints (I.ok.hd hc) fun h' tk k=>⟨_,H,I.kept k,?_,q⟩
 by_cases hj:j>i
 ·rw [qa4 hj,qa4 hj];exact ⟨_,rfl⟩
 ·rw [qa5 hj,qa5 hj];exact ⟨_,rfl⟩
theorem zjr (hc:X.calm=true):zaD X (.builtin "min") (fun xs H Q=> ∃ i j,xs=[.int i,.int j]/\Q (.int (if j<i then j else i)) H):=by
 intro pins s σ H xs us Q I r h
 obtain ⟨i,j,rfl,q⟩:=h
 obtain ⟨u,w',rfl,⟨t,rfl⟩,⟨t',rfl⟩⟩:=zlN r
 refine min_two_ints (I.ok.hd hc) fun h' tk k=>⟨_,H,I.kept k,?_,q⟩
 by_cases hj:j<i
 ·rw [qa4 hj,qa4 hj];exact ⟨_,rfl⟩
 ·rw [qa5 hj,qa5 hj];exact ⟨_,rfl⟩
theorem zjX:zaD X (.type "int") (fun xs H Q=>(∃ i,xs=[.int i]/\Q (.int i) H)\/ ∃ k,xs=[.bl k]/\Q (.int (if k then 1 else 0)) H):=by
 intro pins s σ H xs us Q I r h
 rcases h with ⟨i,rfl,q⟩ | ⟨k,rfl,q⟩
 ·obtain ⟨u,rfl,t,rfl⟩:=zcI r
  exact call_int_int ⟨.int i,H,I,⟨_,rfl⟩,q⟩
 ·obtain ⟨u,rfl,r1⟩:=zcI r
  cases r1
  exact call_int_bool ⟨.int (if k then 1 else 0),H,I.tok _,⟨_,rfl⟩,q⟩
end
structure zq8 (h:Heap) (x dx C:Addr) (mA:Str->Option Value):Prop where
 obj:h.get? x=some (W.instObj C dx)
 ns:h.Ns1 dx mA
 ne:dx≠x
theorem zi1 {h:Heap} {dx:Addr} {mA:Str->Option Value} (n:h.Ns1 dx mA): ∃ od,h.get? dx=some od/\ ∀ name,W.lookIn name od=some (mA name):=by
 obtain ⟨o,es,ep,ho,hd,hk,_,hm⟩:=n
 refine ⟨o,ho,fun name=> ?_⟩
 have e:=hm name
 unfold nsFind findBy at e
 rw [<- Array.find?_toList] at e
 unfold W.lookIn
 rw [hd]
 dsimp only
 split
 ·rename_i y q
  rw [q] at e
  exact congrArg some e
 ·rename_i q
  rw [q] at e
  have a:es.toList.any (·.refKey)=false:=by
   rw [List.any_eq_false]
   intro y hy
   obtain ⟨z,t,hkey⟩:=hk y (Array.mem_toList_iff.mp hy)
   simp [DictEntry.refKey,hkey]
  have a': ¬es.toList.any (·.refKey)=true:=by rw [a];exact Bool.false_ne_true
  rw [qa5 a']
  exact congrArg some e
theorem zq8.look {h:Heap} {x dx C:Addr} {mA:Str->Option Value} (I:zq8 h x dx C mA): ∃ od,W.InstAt h x (W.instObj C dx) C (some od)/\ ∀ name,W.lookIn name od=some (mA name):=
 let ⟨od,ho,hl⟩:=zi1 I.ns
 ⟨od,⟨I.obj,rfl,rfl,ho⟩,hl⟩
section
variable {prog:Program} {w:World} {A:Around} {E:Value->Shared->Prop} {s:Shared} {K:W.Frag} {x dx C f:Addr} {mA:Str->Option Value} {name:Str} {v:Value}
end
noncomputable def zrh (f:Str) (v:V):List (Str×V)->List (Str×V)
 | []=>[(f,v)]
 | (g,x)::r=>if g=f then (g,v)::r else (g,x)::zrh f v r
section
variable {P:Program} {w:World} {H H':Hp} {h h':Heap} {a C dx:Addr} {fs fs':List (Str×V)}
theorem znl (hok:HOk P w H h) (e:H a=some (.ins C dx fs)): ∃ mA,zq8 h a dx C mA/\(∀ f,zrV (fs.lookup f) (mA f))/\PySem.Within mA (fs.map (·.1))/\fs.length<=1000/\H dx=some (.own a):=by
 obtain ⟨d,z,ne,ob,mA,n,r,q⟩:=(show zbb P w H h a (.ins C dx fs) from hok a _ e)
 exact ⟨mA,⟨ob,n,ne⟩,r,q,z,d⟩
end
structure Cls (K:W.Frag) (C:Addr):Prop where
 pg:W.plainGet K C Str.empty=true
 hd:W.hasDictIn K C=true
 po:W.plainOver K C=true
 sa:W.findIn K (.ref C) "__setattr__"=some (some (.builtin "object.__setattr__"))
theorem Cls.get {K:W.Frag} {C:Addr} (c:Cls K C) (f:Str):W.plainGet K C f=true:=c.pg
def zpk (K:W.Frag) (C:Addr) (f:Str):Prop:=W.findIn K (.ref C) f=some none
structure Con (K:W.Frag) (C:Addr) (f:Str) (v:V) (u:Value):Prop where
 at_:W.findIn K (.ref C) f=some (some u)
 rel:zbk v u
 get:W.specialIn K u "__get__"=some none
 cp:W.copiedNames.contains f=false
structure zsX (K:W.Frag) (C:Addr) (m:Str) (f:Addr):Prop where
 at_:W.findIn K (.ref C) m=some (some (.ref f))
 fn:W.isFn K (.ref f)=true
 kp:W.keepIn K (.ref f)=true
section
variable {X:Cx} {pins:List (Addr×Obj)} {σ:St} {H:Hp} {s:Shared} {a C dx:Addr} {fs:List (Str×V)} {f:Str} {v:V} {A:Around} {E:Value->Shared->Prop}
theorem Inv.made (I:Inv X pins σ H s):Inv X pins σ (upd (upd H s.heap.objs.size (.own (s.heap.objs.size+1))) (s.heap.objs.size+1) (.ins C s.heap.objs.size []))
  {s with heap:=(s.heap.push W.emptyDict).push (W.instObj C s.heap.objs.size)}:=by
 have e1:(s.heap.push W.emptyDict).get? s.heap.objs.size=some W.emptyDict:=qar s.heap rfl
 have e2:((s.heap.push W.emptyDict).push (W.instObj C s.heap.objs.size)).get? (s.heap.objs.size+1)=some (W.instObj C s.heap.objs.size):=by
  have:=qar (s.heap.push W.emptyDict) (o:=W.instObj C s.heap.objs.size) rfl
  rwa [qaL] at this
 have e3:(s.heap.push W.emptyDict).Ns s.heap.objs.size (fun _=>none):=⟨W.emptyDict, #[],_,e1,rfl,(fun e he=>absurd he (by simp)),fun _=>rfl⟩
 have I1:=I.laid (a:=s.heap.objs.size) (o:= .own (s.heap.objs.size+1)) (h':=s.heap.push W.emptyDict) (t':=s.toks) (fun b u q=>qag _ q) (qaV _) ⟨_,e1⟩
 refine I1.laid (a:=s.heap.objs.size+1) (o:= .ins C s.heap.objs.size []) (t':=s.toks) (fun b u q=>qag _ q) (Nat.le_of_eq (qaL _ _)) ?_
 have ne:s.heap.objs.size≠s.heap.objs.size+1:=qaR (Nat.lt_succ_self _)
 refine ⟨by rw [zas ne,zax],Nat.zero_le _,ne,e2,fun _=>none,(Heap.Ns1.of_empty e3).at fun o q=>qag _ q,fun _=>True.intro,fun y hy=>absurd rfl hy⟩
end
section
variable {X:Cx} {o e value:Expr} {f:Str} {pos pos' tpos:Pos} {ta tv:TE}
end
section
variable {X:Cx} {pins:List (Addr×Obj)} {σ:St} {H:Hp} {s:Shared} {A:Around} {E:Value->Shared->Prop} {Q:Value->Shared->Prop} {c:Value} {b:Bool}
inductive zhn (K:W.Frag) (H:Hp):V->Value->Prop where
 | non:zhn K H .non (.type "NoneType")
 | bl (x:Bool):zhn K H (.bl x) (.type "bool")
 | int (i:Int):zhn K H (.int i) (.type "int")
 | str (x:Str):zhn K H (.str x) (.type "str")
 | flt (x:UInt64):zhn K H (.flt x) (.type "float")
 | lst {a:Addr} {xs:List V} (e:H a=some (.lst xs)):zhn K H (.ref a) (.type "list")
 | frz {a:Addr} {o:Obj} {xs:List V} (e:H a=some (.frz o (.lst xs))):zhn K H (.ref a) (.type "list")
 | tup {a:Addr} {xs:List V} (e:H a=some (.tup xs)):zhn K H (.ref a) (.type "tuple")
 | dK {a:Addr} {kvs:List (Key×V)} (e:H a=some (.dK kvs)):zhn K H (.ref a) (.type "dict")
 | dT {a:Addr} {kvs:List (List Key×V)} (e:H a=some (.dT kvs)):zhn K H (.ref a) (.type "dict")
 | ins {a C dx:Addr} {fs:List (Str×V)} (e:H a=some (.ins C dx fs)) (cl:Cls K C) (ha:W.findIn K (.ref C) "__class__"=some (some (.builtin "object.__class__")))
   (hn:W.specialIn K (.builtin "object.__class__") "__get__"=some (some (.builtin "getset_descriptor.__get__"))) (htk:W.takesIn K (.builtin "object.__class__")=some true)
   (hm:W.mroIn K C (.type "object")=some true):zhn K H (.ref a) (.ref C)
theorem zj3 {x:V} {u t:Value} (I:Inv X pins σ H s) (rx:zbk x u) (ty:zhn X.K H x t) (e:W.kitOne X.K t c=some b) (h: ∀ tk,Q (.bool b) {s with toks:=tk}):
  wpAny (model X.prog X.w) A (call (.builtin "isinstance") [u,c]) Q E s:=by
 cases ty with
 | non=>cases (show u=Value.none from rx);exact W.kia_one W.kitx_none I.kIn True.intro e (fun z=>nomatch z) h
 | bl y=>cases (show u=Value.bool y from rx);exact W.kia_one W.kitx_bool I.kIn True.intro e (fun z=>nomatch z) h
 | int i=>obtain ⟨t,q⟩:=(show ∃ t,u=Value.int i t from rx);cases q;exact W.kia_one W.kitx_int I.kIn True.intro e (fun z=>nomatch z) h
 | str y=>obtain ⟨t,q⟩:=(show ∃ t,u=Value.str y t from rx);cases q;exact W.kia_one W.kitx_str I.kIn True.intro e (fun z=>nomatch z) h
 | flt y=>obtain ⟨t,q⟩:=(show ∃ t,u=Value.float y t from rx);cases q;exact W.kia_one W.kitx_float I.kIn True.intro e (fun z=>nomatch z) h
 | @lst a xs ea=>
  cases (show u=Value.ref a from rx)
  obtain ⟨_,_,n,_,h1⟩:=(show zbb X.prog X.w H s.heap a (.lst xs) from I.hok a _ ea)
  exact W.kia_one W.kitx_list I.kIn ⟨_,h1,rfl⟩ e (fun z=>nomatch z) h
 | @frz a ob xs ea=>
  cases (show u=Value.ref a from rx)
  obtain ⟨_,_,_,n,_,h1⟩:=(show zbb X.prog X.w H s.heap a (.frz ob (.lst xs)) from I.hok a _ ea)
  exact W.kia_one W.kitx_list I.kIn ⟨_,h1,rfl⟩ e (fun z=>nomatch z) h
 | @tup a xs ea=>
  cases (show u=Value.ref a from rx)
  obtain ⟨_,_,_,p⟩:=(show zbb X.prog X.w H s.heap a (.tup xs) from I.hok a _ ea)
  obtain ⟨o,h1,h2,_⟩:=p
  exact W.kia_one W.kitx_tuple I.kIn ⟨o,h1,h2⟩ e (fun z=>nomatch z) h
 | @dK a kvs ea=>
  cases (show u=Value.ref a from rx)
  obtain ⟨_,_,vs,_,p⟩:=(show zbb X.prog X.w H s.heap a (.dK kvs) from I.hok a _ ea)
  obtain ⟨o,es,ep,h1,h2,_⟩:=p
  exact W.kia_one W.kitx_dict I.kIn ⟨o,h1,h2.1⟩ e (fun z=>nomatch z) h
 | @dT a kvs ea=>
  cases (show u=Value.ref a from rx)
  obtain ⟨_,_,xs,_,o,es,ep,h1,h2,_⟩:=(show zbb X.prog X.w H s.heap a (.dT kvs) from I.hok a _ ea)
  exact W.kia_one W.kitx_dict I.kIn ⟨o,h1,h2.1⟩ e (fun z=>nomatch z) h
 | @ins a C dx fs ea cl ha hn htk hm=>
  cases (show u=Value.ref a from rx)
  obtain ⟨mA,O,_⟩:=znl I.hok ea
  obtain ⟨od,J,_⟩:=O.look
  exact W.kia_one (W.kitx_own (cl.get _) cl.hd ha hn htk hm) I.kIn J e (fun z=>nomatch z) h
end
structure zcO (k:Nat) (A:Around):Prop where
 hd:A.handled=none
 dp:A.depth+3*k+5<recursionLimit
 un:A.units+16*k+200<cLine
theorem zcO.mono {j k:Nat} {A:Around} (r:zcO k A) (h:j<=k):zcO j A:=⟨r.hd,by have:=r.dp;omega,by have:=r.un;omega⟩
theorem zcO.deeper {k:Nat} {A:Around} (r:zcO (k+1) A) (env:Env):zcO k (A.deeper env):=
 ⟨r.hd,by have:=r.dp;show A.depth+1+3*k+5<_;omega,by have:=r.un;show A.units+3+16*k+200<_;omega⟩
theorem zcO.in1 {k:Nat} {A:Around} (r:zcO (k+1) A):zcO k A.in1:=
 ⟨r.hd,by have:=r.dp;show A.depth+3*k+5<_;omega,by have:=r.un;show A.units+1+16*k+200<_;omega⟩
theorem zcO.depth {k:Nat} {A:Around} (r:zcO k A):A.depth<recursionLimit:=by have:=r.dp;omega
theorem zcO.units {k:Nat} {A:Around} (r:zcO k A):A.units+64<cLine:=by have:=r.un;omega
noncomputable def zsJ:TA:=fun _ H Q=>Q [] H
noncomputable def zrN (ta:TE) (tr:TA):TA:=fun σ H Q=>ta σ H fun x H1=>tr σ H1 fun xs H2=>Q (x::xs) H2
section
variable {X:Cx} {e:Expr} {es:List Expr} {te:TE} {t:TA} {pos:Pos}
theorem za8:PA X [] zsJ:=fun _ _ _ _ H Q I h=>Calls.spliced_nil ⟨[],H,I,.nil,h⟩
theorem zaE (ha:PE X e te) (hr:PA X es t) (hs:starEach (e::es) X.env=(false,eval e X.env)::starEach es X.env:=by rfl):PA X (e::es) (zrN te t):=by
 intro pos pins s σ H Q I h
 rw [hs]
 show wpAny _ _ (spliced ((false,eval e X.env)::backTo pos (starEach es X.env))) _ _ s
 refine Calls.spliced_cons (thn (ha pins s σ H _ I h) fun u s1 ⟨x,H1,I1,r1,q1⟩=> ?_)
 exact thn (hr pos pins s1 σ H1 _ I1 q1) fun us s2 ⟨xs,H2,I2,r2,q2⟩=>⟨x::xs,H2,I2,.cons r1 r2,q2⟩
noncomputable def zsq (t:TA):TE:=fun σ H Q=>t σ H fun xs H1=>xs.length<=sizeLine/\ ∀ p,H1 p=none->Q (.ref p) (upd H1 p (.tup xs))
noncomputable def zsg (t:TA):TE:=fun σ H Q=>t σ H fun xs H1=>xs.length<=sizeLine/\ ∀ p,H1 p=none->Q (.ref p) (upd H1 p (.lst xs))
theorem zqA {x1} (h:PA X es t):PE X (.Tuple es x1 pos) (zsq t):=by
 intro pins s σ H Q I hq
 refine wpAny_Tuple_spliced (thn (h pos pins s σ H _ I hq) fun us s1 ⟨xs,H1,I1,r,z,q⟩=>⟨by rw [<- r.length];exact z,?_⟩)
 have hf:H1 s1.heap.objs.size=none:=I1.hok.fresh (qaV _)
 refine ⟨.ref s1.heap.objs.size,upd H1 s1.heap.objs.size (.tup xs),I1.laid (t':=s1.toks) (fun b u e=>qag _ e) (qaV _) ?_,rfl,q _ hf⟩
 exact ⟨z,us,r,⟨_,qar _ rfl,rfl,_,rfl,rfl⟩⟩
theorem zma (h:PA X es t):PE X (.List es pos) (zsg t):=by
 intro pins s σ H Q I hq
 refine wpAny_List_spliced (thn (h pos pins s σ H _ I hq) fun us s1 ⟨xs,H1,I1,r,z,q⟩=>⟨by rw [<- r.length];exact z,?_⟩)
 have hf:H1 s1.heap.objs.size=none:=I1.hok.fresh (qaV _)
 refine ⟨.ref s1.heap.objs.size,upd H1 s1.heap.objs.size (.lst xs),I1.laid (t':=s1.toks) (fun b u e=>qag _ e) (qaV _) ?_,rfl,q _ hf⟩
 exact ⟨z,us,0,r,qar _ rfl⟩
end
noncomputable abbrev Sp:=List V->Hp->VK->XK->Prop
noncomputable abbrev CXT:=List Env->Hp->Shared->XK->Value->Shared->Prop
structure zld (P:Program) (w:World) (K:W.Frag) (mg:Str->Option Value) (base:Heap) (A:Around) (outer:List Env) (s:Shared) (H:Hp):Prop where
 frames:A.frames=some outer
 mod:Mod K mg base
 bs: ∀ b o,base.get? b=some o->s.heap.get? b=some o/\H b=none
 bsz:base.objs.size<=s.heap.objs.size
 funs:s.heap.FunFrames base outer
 frf: ∀ b∈frs outer,H b=none
 hok:HOk P w H s.heap
 bare:AllBare s.gens
 hand:zf9 A H
def CE (outer:List Env) (P:Program) (w:World) (H:Hp) (s:Shared) (Q:VK) (u:Value) (s':Shared):Prop:=
 ∃ v H',s'.os=s.os/\AllBare s'.gens/\Un (frs outer) [] H H' s.heap s'.heap/\HOk P w H' s'.heap/\zbk v u/\Q v H'
def CR (CX:CXT) (outer:List Env) (P:Program) (w:World) (H:Hp) (s:Shared) (Q:VK) (E:XK) (r:Result) (s':Shared):Prop:=
 match r with
 | .ok (.ret u)=>CE outer P w H s Q u s'
 | .ok _=>False
 | .error e=>CX outer H s E e s'
structure zbw (P:Program) (w:World) (K:W.Frag) (mg:Str->Option Value) (base:Heap) (CX:CXT) (k:Nat) (f:Addr) (fd:FuncData) (ps:List Str) (sp:Sp):Prop where
 len: ∀ vs H Q E,sp vs H Q E->vs.length=ps.length
 run: ∀ (A:Around) (outer:List Env) (s:Shared) (H:Hp) (args:Args) (us:List Value) (vs:List V) (Q:VK) (E:XK),zcO k A->zld P w K mg base A outer s H->BindsTo s fd args (ps.zip us)->zaM vs us->sp vs H Q E->
  codeAny (model P w) A (.call (.ref f) args) (CR CX outer P w H s Q E) s
theorem zbw.mono {P:Program} {w:World} {K:W.Frag} {mg:Str->Option Value} {base:Heap} {CX:CXT} {j k:Nat} {f:Addr} {fd:FuncData} {ps:List Str} {sp:Sp} (F:zbw P w K mg base CX j f fd ps sp) (h:j<=k):
  zbw P w K mg base CX k f fd ps sp:=⟨F.len,fun A outer s H args us vs Q E hr=>F.run A outer s H args us vs Q E (hr.mono h)⟩
theorem zbw.imp {P:Program} {w:World} {K:W.Frag} {mg:Str->Option Value} {base:Heap} {CX:CXT} {k:Nat} {f:Addr} {fd:FuncData} {ps:List Str} {sp sp':Sp} (F:zbw P w K mg base CX k f fd ps sp)
  (h: ∀ vs H Q E,sp' vs H Q E->sp vs H Q E):zbw P w K mg base CX k f fd ps sp':=
 ⟨fun vs H Q E q=>F.len vs H Q E (h _ _ _ _ q),fun A outer s H args us vs Q E hr he hb hv hs=>F.run A outer s H args us vs Q E hr he hb hv (h _ _ _ _ hs)⟩
theorem zld.in1 {P:Program} {w:World} {K:W.Frag} {mg:Str->Option Value} {base:Heap} {A:Around} {outer:List Env} {s:Shared} {H:Hp} (e:zld P w K mg base A outer s H):
  zld P w K mg base A.in1 outer s H:=⟨e.frames,e.mod,e.bs,e.bsz,e.funs,e.frf,e.hok,e.bare,e.hand⟩
section
variable {X:Cx} {pins:List (Addr×Obj)} {σ:St} {H:Hp} {s s':Shared}
theorem Inv.env0 (I:Inv X pins σ H s):zld X.prog X.w X.K X.mg X.base X.A X.stack s H:=
 ⟨I.ok.frames,I.ok.mod,I.bs,qaS I.ok.bsz I.sz,I.stack,I.stkFree,I.hok,I.bare,I.handA⟩
theorem Inv.after {Q:VK} {u:Value} (I:Inv X pins σ H s) (h:CE X.stack X.prog X.w H s Q u s'):EP X pins σ Q u s':=by
 obtain ⟨v,H',os,bare,un,hok,r,q⟩:=h
 obtain ⟨hh,g,d,t,os'⟩:=s'
 obtain rfl:os'=s.os:=os
 exact ⟨v,H',I.call (h':=hh) (g':=g) (d':=d) (t':=t) (ch:=[]) un hok bare (fun b z=>absurd z (by simp)),r,q⟩
end
noncomputable def zrM (sp:Sp) (dvs:List V) (E:XK) (t:TA):TE:=fun σ H Q=>t σ H fun vs H1=>sp (vs++dvs) H1 Q E
def zaN (K:W.Frag) (fd:FuncData) (ps:List Str) (ds:List Value):Prop:=
 ∀ (s:Shared) (us:List Value),K.In s.heap->(us++ds).length=ps.length->BindsTo s fd ⟨us,[]⟩ (ps.zip (us++ds))
theorem zaN.all {K:W.Frag} {fd:FuncData} {ps:List Str} (h: ∀ us:List Value,us.length=ps.length->bindArgs fd ⟨us,[]⟩=pure (ps.zip us)):zaN K fd ps []:=fun s us _ hl=>by
 rw [List.append_nil] at hl ⊢
 exact .of_eq (h us hl)
def zdQ (CX:CXT) (X:Cx) (E:XK):Prop:= ∀ (pins:List (Addr×Obj)) (σ:St) (H:Hp) (s:Shared) (e:Value) (s':Shared),Inv X pins σ H s->CX X.stack H s E e s'->X.xe e s'
section
variable {X:Cx} {CX:CXT} {k:Nat} {f C:Addr} {fd:FuncData} {ps:List Str} {sp:Sp} {dvs:List V} {ds:List Value} {E:XK} {x m:Str} {p pos apos:Pos} {e o:Expr} {es:List Expr} {ta:TE} {t:TA}
theorem zp2 {pins:List (Addr×Obj)} {σ:St} {H:Hp} {s:Shared} {Q:VK} {us:List Value} {vs:List V} (F:zbw X.prog X.w X.K X.mg X.base CX k f fd ps sp) (hr:zcO k X.A) (hb:zaN X.K fd ps ds) (hd:zaM dvs ds) (hx:zdQ CX X E)
  (I:Inv X pins σ H s) (r:zaM vs us) (h:sp (vs++dvs) H Q E):wpAny (model X.prog X.w) X.A (call (.ref f) us) (EP X pins σ Q) X.xe s:=by
 have r2:zaM (vs++dvs) (us++ds):=r.append hd
 have hl:(us++ds).length=ps.length:=by rw [<- r2.length];exact F.len _ _ _ _ h
 refine wpAny_call (codeAny_mono (F.run X.A X.stack s H ⟨us,[]⟩ (us++ds) (vs++dvs) Q E hr I.env0 (hb s us I.kIn hl) r2 h) fun r s' hq=> ?_)
 cases r with
 | error e=>exact hx pins σ H s e s' I hq
 | ok fl=>
  cases fl with
  | ret u=>exact I.after hq
  | next=>exact qa0 hq
  | brk=>exact qa0 hq
  | cont=>exact qa0 hq
theorem zg9 (F:zbw X.prog X.w X.K X.mg X.base CX k f fd ps sp) (hr:zcO k X.A) (hg:Gl X x) (hm:X.mg x=some (.ref f)) (hk:W.keepIn X.K (.ref f)=true) (hb:zaN X.K fd ps ds) (hd:zaM dvs ds) (hx:zdQ CX X E)
  (ha:PA X (e::es) t) (hdb:(x==("__debug__":Str))=false:=by decide) (he:starEach (e::es) X.env=(false,eval e X.env)::starEach es X.env:=by rfl) (hpl:(backTo pos (starEach es X.env)).any (·.1)=false:=by rfl):
  PE X (.Call (.Name x p) (e::es) [] pos) (zrM sp dvs E t):=by
 intro pins s σ H Q I h
 refine wpAny_Call_Name_kw (zgX I hg hm ?_ hdb)
 refine W.callWith_K (h₀:=X.base) I.ok.mod.kin hk (thn (ha pos pins s σ H _ I h) fun us s1 ⟨vs,H1,I1,r,q⟩=>⟨I1.kIn,?_⟩) he hpl
 exact zp2 F hr hb hd hx I1 r q
structure Mk (K:W.Frag) (C f:Addr):Prop where
 makes:W.makesIn K C=true
 init:W.findIn K (.ref C) "__init__"=some (some (.ref f))
 fn:W.isFn K (.ref f)=true
 kp:W.keepIn K (.ref C)=true
end
section
variable {X:Cx} {CX:CXT} {k:Nat} {f C:Addr} {fd:FuncData} {ps ks:List Str} {sp:Sp} {E:XK} {x m:Str} {p pos apos kpos:Pos} {e o:Expr} {es:List Expr} {kws:List Keyword} {te ta:TE} {t tk:TA} {nm:Option Str}
structure zsb (K:W.Frag) (fd:FuncData) (ps ks:List Str) (g:List Value->List Value->List Value) (gV:List V->List V->List V):Prop where
 to: ∀ (s:Shared) (us ws:List Value),K.In s.heap->(g us ws).length=ps.length->BindsTo s fd ⟨us,ks.zip ws⟩ (ps.zip (g us ws))
 rel: ∀ {vs:List V} {us:List Value} {zs:List V} {ws:List Value},zaM vs us->zaM zs ws->zaM (gV vs zs) (g us ws)
variable {g:List Value->List Value->List Value} {gV:List V->List V->List V}
end
structure zau (N P:List Str) (sc:Scope):Prop where
 kind:sc.kind= .function
 co:sc.isCoroutine=false
 gen:sc.isGenerator=false
 nd:N.Nodup
 pre:N.take P.length=P
 par: ∀ x∈P,sc.names.lookup x=some .local\/sc.names.lookup x=some .cell
 nofree: ∀ y∈sc.names,y.2≠ .free
theorem zgx {kindOf:Str->Option NameKind} {x:Str}: ∀ {binds:List (Str×Value)} {m:Str->Option Value},(∀ v,(x,v)∉binds)->bindL kindOf binds m x=m x
 | [],_,_=>rfl
 | (n,v)::r,m,h=>by
  unfold bindL
  rw [zgx fun w hw=>h w (qan _ hw)]
  split
  ·have:x≠n:=by rintro rfl;exact h v qau
   simp [this]
  ·rfl
theorem zgg {kindOf:Str->Option NameKind} {x:Str}: ∀ {binds:List (Str×Value)} {m:Str->Option Value},(∀ v,(x,v)∉binds)->bindC kindOf binds m x=m x
 | [],_,_=>rfl
 | (n,v)::r,m,h=>by
  unfold bindC
  rw [zgg fun w hw=>h w (qan _ hw)]
  split
  ·rfl
  ·have:x≠n:=by rintro rfl;exact h v qau
   simp [this]
theorem zga {kindOf:Str->Option NameKind} {x:Str} {v:Value}: ∀ {P:List Str} {vs:List Value} {i:Nat} {m:Str->Option Value},P.Nodup->P[i]? = some x->vs[i]? = some v->kindOf x=some .local->
  bindL kindOf (P.zip vs) m x=some v
 | [],_,_,_,_,h,_,_=>by simp at h
 | _::_,[],_,_,_,_,h,_=>by simp at h
 | p::P,w::vs,0,m,nd,h1,h2,hk=>by
  simp at h1 h2;subst h1;subst h2
  show bindL kindOf ((p,w)::P.zip vs) m p=_
  unfold bindL
  rw [zgx fun v hv=>(List.nodup_cons.mp nd).1 (List.of_mem_zip hv).1,qa4 hk]
  simp
 | p::P,w::vs,i+1,m,nd,h1,h2,hk=>by
  show bindL kindOf ((p,w)::P.zip vs) m x=_
  unfold bindL
  exact zga (i:=i) (List.nodup_cons.mp nd).2 (by simpa using h1) (by simpa using h2) hk
theorem zgb {kindOf:Str->Option NameKind} {x:Str} {v:Value}: ∀ {P:List Str} {vs:List Value} {i:Nat} {m:Str->Option Value},P.Nodup->P[i]? = some x->vs[i]? = some v->kindOf x≠some .local->
  bindC kindOf (P.zip vs) m x=some v
 | [],_,_,_,_,h,_,_=>by simp at h
 | _::_,[],_,_,_,_,h,_=>by simp at h
 | p::P,w::vs,0,m,nd,h1,h2,hk=>by
  simp at h1 h2;subst h1;subst h2
  show bindC kindOf ((p,w)::P.zip vs) m p=_
  unfold bindC
  rw [zgg fun v hv=>(List.nodup_cons.mp nd).1 (List.of_mem_zip hv).1,qa5 hk]
  simp
 | p::P,w::vs,i+1,m,nd,h1,h2,hk=>by
  show bindC kindOf ((p,w)::P.zip vs) m x=_
  unfold bindC
  exact zgb (i:=i) (List.nodup_cons.mp nd).2 (by simpa using h1) (by simpa using h2) hk
noncomputable def zdx (N:List Str) (vs:List V):St:=vs.map some++List.replicate (N.length - vs.length) none
noncomputable def zg7 (CX:CXT) (P:Program) (w:World) (K:W.Frag) (mg:Str->Option Value) (base:Heap) (N:List Str) (qual:Str) (scope:Scope) (f:Addr) (cd:Value) (A:Around) (outer:List Env) (s:Shared) (H:Hp) (E:XK):Cx where
 prog:=P
 w:=w
 K:=K
 mg:=mg
 base:=base
 A:=A.deeper (envOfC qual scope s.heap.objs.size f cd)
 N:=N
 s₀:=s
 H₀:=H
 env:=envOfC qual scope s.heap.objs.size f cd
 outer:=outer
 stack:=envOfC qual scope s.heap.objs.size f cd::outer
 ex:=[]
 calm:=true
 fn:=fun _=>true
 pn:=[]
 xe:=fun e s'=>wpAny (model P w) (A.deeper (envOfC qual scope s.heap.objs.size f cd)) (leaving (envOfC qual scope s.heap.objs.size f cd) e) (fun _ s''=>CX outer H s E e s'') (fun e' s''=>CX outer H s E e' s'') s'
theorem zhQ {sc:Scope} {n:Nat} {x:Str} (h:sc.names.lookup x=some .cell): ∃ c,(cellsFrom n sc.names []).lookup x=some c:=by
 have q:=W.cellsFrom_some sc.names n [] (.inl h)
 exact Option.isSome_iff_exists.mp q
theorem zgo {CX:CXT} {P:Program} {w:World} {K:W.Frag} {mg:Str->Option Value} {base:Heap} {N ps:List Str} {qual:Str} {scope:Scope} {f:Addr} {cd:Value} {A:Around} {outer:List Env} {s s1:Shared} {H:Hp} {E:XK} {us:List Value} {vs:List V}
  (S:zau N ps scope) {cm:Bool} (hd:cm=true->A.handled=none) (e0:zld P w K mg base A outer s H) (hl:vs.length=ps.length) (r:zaM vs us)
  (x:InCallC s s.heap.objs.size (bindL (envOfC qual scope s.heap.objs.size f cd).kindOf (ps.zip us) fun _=>none) (cellsFrom (s.heap.objs.size+1) scope.names []) (bindC (envOfC qual scope s.heap.objs.size f cd).kindOf (ps.zip us) fun _=>none) s1):
  Inv {zg7 CX P w K mg base N qual scope f cd A outer s H E with calm:=cm} [] (zdx N vs) H s1:=by
 have hpl:ps.length<=N.length:=by have:=congrArg List.length S.pre;rw [List.length_take] at this;omega
 obtain ⟨h1,tk,rfl,hk⟩:=x.done
 have noA: ∀ b:Addr,b∉(zg7 CX P w K mg base N qual scope f cd A outer s H E).ex:=fun b z=>absurd (show b∈([]:List Addr) from z) (by simp)
 refine ⟨⟨e0.mod,S.kind,rfl,rfl,qaV _,fun y z c h1 h2=> ?_,fun y hy=> ?_,fun y c _ h=> ?_,hd,e0.hand,Around.frames_deeper e0.frames,.inr ⟨rfl,rfl⟩,fun b z=>absurd z (noA b),e0.bs,e0.bsz,fun b _ _=>noA b,fun b z=>absurd z (noA b),e0.funs,e0.frf⟩,
   rfl,e0.bare,Un.kept hk,⟨_,x.toInCall.ns,fun i y v h1 h2 h3=> ?_⟩,fun y c h=>⟨_,x.cell y c h⟩,e0.hok.fresh (qaV _),fun y c h=> ?_,fun p hp=>absurd (show p∈([]:List (Addr×Obj)) from hp) (by simp),e0.hok.kept hk,?_⟩
 ·exact name_of_addr x.apart (PySem.mem_of_lookup h1) (PySem.mem_of_lookup h2)
 ·have hy:scope.names.lookup y=some .cell\/scope.names.lookup y=some .free:=hy
  rcases hy with hy | hy
  ·exact zhQ hy
  ·exact absurd rfl (S.nofree _ (PySem.mem_of_lookup hy))
 ·exact Nat.le_of_lt (x.above y c (PySem.mem_of_lookup h))
 ·have hi:i<vs.length:=by
   unfold zdx at h2
   by_cases hi:i<vs.length
   ·exact hi
   ·rw [qaa (by simpa using hi)] at h2
    rw [List.getElem?_replicate] at h2
    split at h2<;>cases h2
  have ha:vs[i]? = some v:=by
   unfold zdx at h2
   rw [qad (by simpa using hi),List.getElem?_map] at h2
   cases e:vs[i]? with
   | none=>rw [e] at h2;cases h2
   | some a=>rw [e] at h2;cases h2;rfl
  obtain ⟨u,hu,rv⟩:=r.get ha
  have hp:ps[i]? = some y:=by
   rw [<- S.pre,List.getElem?_take_of_lt (by omega)];exact h1
  have ndP:ps.Nodup:=by rw [<- S.pre];exact S.nd.sublist (List.take_sublist _ _)
  refine ⟨u,rv,?_⟩
  rcases S.par y (List.mem_of_getElem? hp) with k | k
  ·exact .inl ⟨k,zga ndP hp hu k⟩
  ·obtain ⟨c,e⟩:=zhQ (n:=s.heap.objs.size+1) k
   refine .inr ⟨.inl k,c,e,?_⟩
   have q:=x.cell y c e
   rw [zgb ndP hp hu (by show scope.names.lookup y≠_;rw [k];decide)] at q
   exact q
 ·exact e0.hok.fresh (Nat.le_of_lt (x.above y c (PySem.mem_of_lookup h)))
 ·unfold zdx
  show _=N.length
  rw [qav,qaH,List.length_replicate]
  omega
theorem zoK {CX:CXT} {P:Program} {w:World} {K:W.Frag} {mg:Str->Option Value} {base:Heap} {k:Nat} {f:Addr} {name qual:Str} {params:Arguments} {body:List Stmt} {scope:Scope} {dV kV doc pm cdv ct oc:Value} {an od:Option Addr}
  {osl:Array (Option Value)} {N ps:List Str} {sp:Sp} (lk:K.lookup f=some ⟨oc,od,.func (W.fnOf name qual params body scope dV kV doc pm an cdv ct),osl⟩) (hcd:W.codeIn K cdv qual=true) (S:zau N ps scope)
  (len: ∀ vs H Q E,sp vs H Q E->vs.length=ps.length)
  (hbody: ∀ (A:Around) (outer:List Env) (s:Shared) (H:Hp) (vs:List V) (Q:VK) (E:XK),zcO k (A.deeper (envOfC qual scope s.heap.objs.size f cdv))->sp vs H Q E->
    ∃ t,PSs (zg7 CX P w K mg base N qual scope f cdv A outer s H E) body t/\t {nx:=fun _ H'=>Q .non H',rt:=Q} (zdx N vs) H):
  zbw P w K mg base CX (k+1) f (W.fnOf name qual params body scope dV kV doc pm an cdv ct) ps sp:=by
 refine ⟨len,fun A outer s H args us vs Q E hr e0 hb r hsp=> ?_⟩
 have hl:=len _ _ _ _ hsp
 have KX:K.In s.heap:=e0.mod.kin.keeps fun b o e=>(e0.bs b o e).1
 have lim:s.heap.NoLimit:=e0.mod.nolimit.keeps fun b o e=>(e0.bs b o e).1
 have hkind: ∀ y∈ps.zip us,scope.names.lookup y.1=some .local\/(scope.names.lookup y.1=some .cell/\((cellsFrom (s.heap.objs.size+1) scope.names []).lookup y.1).isSome=true):=fun ⟨n,v⟩ hy=>by
  rcases S.par n (List.of_mem_zip hy).1 with q | q
  ·exact .inl q
  ·exact .inr ⟨q,W.cellsFrom_some _ _ _ (.inl q)⟩
 refine codeAny_call_function hr.depth (KX _ _ lk) rfl S.co S.gen rfl (W.codeRec_of KX hcd) (hb _ _ _ _ ?_)
 refine wpAny_newFunctionEnv_cells S.kind hkind fun env he s1 x=> ?_
 subst he
 refine ⟨lim.keeps x.toInCall.keep,codeAny_func ?_⟩
 obtain ⟨t,ht,hq⟩:=hbody A outer s H vs Q E (hr.deeper _) hsp
 have I:Inv (zg7 CX P w K mg base N qual scope f cdv A outer s H E) [] (zdx N vs) H s1:=zgo (cm:=true) S (fun _=>hr.hd) e0 hl r x
 refine qaZ (ht [] s1 (zdx N vs) H _ I hq) (fun fl s' hs=> ?_) fun e s' hs=>hs
 have fin: ∀ {σ':St} {H':Hp} {v:V} {u:Value},Inv (zg7 CX P w K mg base N qual scope f cdv A outer s H E) [] σ' H' s'->zbk v u->Q v H'->CE outer P w H s Q u s':=
  fun {σ' H' v u} J rv q=>⟨v,H',J.os,J.bare,J.base,J.hok,rv,q⟩
 cases fl with
 | ret u=>
  obtain ⟨v,σ',H',J,rv,q⟩:=hs
  exact fin J rv q
 | next=>
  obtain ⟨σ',H',J,q⟩:=hs
  exact fin (v:=V.non) (u:=Value.none) J rfl q
 | brk=>
  obtain ⟨_,_,_,q⟩:=hs
  exact qa0 q
 | cont=>
  obtain ⟨_,_,_,q⟩:=hs
  exact qa0 q
section
variable {X:Cx} {x:Str} {p pos:Pos} {e:Expr} {es:List Expr} {t:TA} {id T:String} {r:List V->Hp->VK->Prop}
noncomputable def tCB (r:List V->Hp->VK->Prop) (t:TA):TE:=fun σ H Q=>t σ H fun vs H1=>r vs H1 Q
theorem zdm (hc:zaD X (.builtin id) r) (hg:Gl X x) (hm:X.mg x=none) (hv:bootBuiltins x=some (.builtin id)) (ha:PA X (e::es) t) (hn:x≠"__name__":=by decide) (hdb:(x==("__debug__":Str))=false:=by decide)
  (he:starEach (e::es) X.env=(false,eval e X.env)::starEach es X.env:=by rfl) (hpl:(backTo pos (starEach es X.env)).any (·.1)=false:=by rfl):PE X (.Call (.Name x p) (e::es) [] pos) (tCB r t):=by
 intro pins s σ H Q I h
 refine wpAny_Call_Name_kw (zgj I hg hm hv ?_ hn hdb)
 exact PyProof.Rows.callWith_builtin1 (thn (ha pos pins s σ H _ I h) fun us s1 ⟨vs,H1,I1,r1,q1⟩=>hc pins s1 σ H1 vs us Q I1 r1 q1) he hpl
theorem za3 (hc:zaD X (.type T) r) (hg:Gl X x) (hm:X.mg x=none) (hv:bootBuiltins x=some (.type T)) (ha:PA X (e::es) t) (hn:x≠"__name__":=by decide) (hdb:(x==("__debug__":Str))=false:=by decide)
  (he:starEach (e::es) X.env=(false,eval e X.env)::starEach es X.env:=by rfl) (hpl:(backTo pos (starEach es X.env)).any (·.1)=false:=by rfl):PE X (.Call (.Name x p) (e::es) [] pos) (tCB r t):=by
 intro pins s σ H Q I h
 refine wpAny_Call_Name_kw (zgj I hg hm hv ?_ hn hdb)
 exact PyProof.Rows.callWith_type1 (thn (ha pos pins s σ H _ I h) fun us s1 ⟨vs,H1,I1,r1,q1⟩=>hc pins s1 σ H1 vs us Q I1 r1 q1) he hpl
end
end L2
namespace HT
open PySem PyProof.Rows
section
open PySem.SeqAt
open PySem.AutoSeq1 (wpAny_loadPart')
open PySem.MeetsSeq PySem.MeetsSeq2 PySem.MeetsSeq3
end
section
variable {prog:Program} {w:World} {A:Around} {E:Value->Shared->Prop} {s:Shared}
theorem zon {t b:Addr} {vs ws:List Value} {Q:Value->Shared->Prop} (ht:IsTup s.heap t vs.toArray) (hb:IsTup s.heap b ws.toArray) (hv:vs≠[])
  (h1:ws=[]->Q (.ref t) s) (h2:ws≠[]->Q (.ref s.heap.objs.size) {s with heap:=s.heap.push {cls:= .type "tuple",data:= .seq (vs++ws).toArray}})
  (hsz:vs.length+ws.length<=sizeLine):wpAny (model prog w) A (binaryOp .Add (.ref t) (.ref b)) Q E s:=by
 obtain ⟨⟨cls,dd,data,sl⟩,ho,hc,n,hd⟩:=id ht
 obtain ⟨⟨cls2,dd2,data2,sl2⟩,ho2,hc2,n2,hd2⟩:=id hb
 simp only at hc hd hc2 hd2
 subst hc hd hc2 hd2
 have e:vs.toArray++ws.toArray=(vs++ws).toArray:=by simp
 by_cases hw:ws=[]
 ·exact concat_meets ⟨_,ho,rfl⟩ ⟨_,ho2,rfl⟩ noFill_tuple_add seq_tuple_add PySem.F.slot_tuple_add PySem.F.entry_tuple_add (PySem.F.args_tuple_add_2 _ _)
   (tuple_addW1 t b vs.toArray ws.toArray n n2 dd dd2 sl sl2 (by simpa using hv) (by simp [hw])) ⟨ho,ho2,h1 hw⟩
 ·refine concat_meets ⟨_,ho,rfl⟩ ⟨_,ho2,rfl⟩ noFill_tuple_add seq_tuple_add PySem.F.slot_tuple_add PySem.F.entry_tuple_add (PySem.F.args_tuple_add_2 _ _)
   (tuple_addW2 t b vs.toArray ws.toArray n n2 dd dd2 sl sl2 (by simpa using hv) (by simpa using hw) (by rw [qaA,qaA];exact hsz)) ⟨ho,ho2,?_⟩
  rw [e]
  exact h2 hw
noncomputable def sIx (n d:Nat):Option Int->Nat
 | none=>d
 | some v=>if v<0 then (v+(n:Int)).toNat else min v.toNat n
theorem znB (n d k:Nat):sIx n d (some (k:Int))=min k n:=by
 show (if (k:Int)<0 then ((k:Int)+(n:Int)).toNat else min (k:Int).toNat n)=min k n
 rw [qa5 (by omega),qaB]
theorem zpo (n d:Nat) (hd:d<=n) (o:Option Int):sIx n d o<=n:=by
 cases o with
 | none=>exact hd
 | some v=>
  show (if v<0 then (v+(n:Int)).toNat else min v.toNat n)<=n
  by_cases hv:v<0
  ·rw [qa4 hv];omega
  ·rw [qa5 hv];exact Nat.min_le_right _ _
theorem zjL (v:Int) (n d:Nat):(if v<0 then max (v+(n:Int)) 0 else min v (n:Int))=((sIx n d (some v):Nat):Int):=by
 show (if v<0 then max (v+(n:Int)) 0 else min v (n:Int))=(((if v<0 then (v+(n:Int)).toNat else min v.toNat n):Nat):Int)
 by_cases hv:v<0
 ·simp only [qa4 hv];omega
 ·simp only [qa5 hv];omega
theorem ziG (lo hi:Option Int) (n:Nat):Builtin.Slice.sliceAdjust lo hi 1 (n:Int)=(((sIx n 0 lo:Nat):Int),((sIx n n hi:Nat):Int)):=by
 have h1: ¬((1:Int)<0):=by omega
 unfold Builtin.Slice.sliceAdjust
 simp only [h1,if_false]
 refine Prod.ext ?_ ?_
 ·cases lo with
  | none=>rfl
  | some v=>exact zjL v n 0
 ·cases hi with
  | none=>rfl
  | some v=>exact zjL v n n
theorem zir (i j:Nat):Builtin.Slice.slicePlaces (i:Int) (j:Int) 1=j - i:=by
 unfold Builtin.Slice.slicePlaces
 have h1:(1:Int)>0:=by omega
 simp only [h1,if_true,Int.ediv_one]
 split<;>omega
theorem ze9 {v:Value} {o:Option Int} {Q:Option Int->Shared->Prop} (p:IsPart v o) (h:Q o s):wpAny (model prog w) A (Builtin.Slice.slicePartIndex v) Q E s:=by
 cases p with
 | none=>exact slicePart_none h
 | int i t=>exact slicePart_int h
theorem zcm {sl:Addr} {vl vu:Value} {lo hi:Option Int} {n:Nat} {Q:Int×Int×Nat->Shared->Prop} (hs:s.heap.IsSliceOf sl vl vu .none) (pl:IsPart vl lo) (pu:IsPart vu hi)
  (h:Q (((sIx n 0 lo:Nat):Int),1,sIx n n hi - sIx n 0 lo) s):wpAny (model prog w) A (Builtin.Slice.sliceApplied (.ref sl) (pure (n:Int))) Q E s:=by
 obtain ⟨os,hos,hcs,hds⟩:=id hs
 unfold Builtin.Slice.sliceApplied Builtin.Slice.sliceFields
 refine qaW (qaW (wpAny_field hos hds (x:=vl) rfl (qaW (wpAny_field hos hds (x:=vu) rfl (qaW (wpAny_field hos hds (x:= .none) rfl (qaX ?_)))))))
 refine qaW (slicePart_none ?_)
 show wpAny _ _ (if ((1:Int)==0)=true then _ else _) _ _ s
 rw [qa5 (by decide)]
 refine qaW (ze9 pl (qaW (ze9 pu (qaW (qaX ?_)))))
 show wpAny _ _ (match Builtin.Slice.sliceAdjust lo hi 1 (n:Int) with | (lo,hi)=>pure (lo,(1:Int),Builtin.Slice.slicePlaces lo hi 1)) _ _ s
 rw [ziG lo hi n]
 show wpAny _ _ (pure (((sIx n 0 lo:Nat):Int),(1:Int),Builtin.Slice.slicePlaces ((sIx n 0 lo:Nat):Int) ((sIx n n hi:Nat):Int) 1)) _ _ s
 rw [zir]
 exact qaX h
theorem zkS (xs:Array Value) (i k:Nat):((List.range k).filterMap fun (m:Nat)=>xs[((i:Int)+(m:Int)*1).toNat]?).toArray=((xs.toList.drop i).take k).toArray:=by
 have e:(fun (m:Nat)=>xs[((i:Int)+(m:Int)*1).toNat]?)=fun m=>xs[i+m]? := by
  funext m
  have:((i:Int)+(m:Int)*1).toNat=i+m:=by omega
  rw [this]
 rw [e]
 have:=pick_run xs i k
 rw [List.filterMap_map] at this
 have e2:((fun x=>xs[x]?)∘fun x=>i+x)=fun m=>xs[i+m]? := rfl
 rw [e2] at this
 rw [this]
theorem zdN {t sl:Addr} {items:Array Value} {vl vu:Value} {lo hi:Option Int} {Q:Value->Shared->Prop} (ht:IsTup s.heap t items) (hs:s.heap.IsSliceOf sl vl vu .none) (pl:IsPart vl lo) (pu:IsPart vu hi)
  (hw: ¬(sIx items.size 0 lo=0/\sIx items.size items.size hi=items.size))
  (h:Q (.ref s.heap.objs.size) {s with heap:=s.heap.push {cls:= .type "tuple",data:= .seq ((items.toList.drop (sIx items.size 0 lo)).take (sIx items.size items.size hi - sIx items.size 0 lo)).toArray}})
  (hsz:items.size<=sizeLine):wpAny (model prog w) A (getItem (.ref t) (.ref sl)) Q E s:=by
 have htake:sizeOk (.seq ((items.toList.drop (sIx items.size 0 lo)).take (sIx items.size items.size hi - sIx items.size 0 lo)).toArray):=by
  show ((items.toList.drop (sIx items.size 0 lo)).take (sIx items.size items.size hi - sIx items.size 0 lo)).toArray.size<=sizeLine
  rw [qaA,List.length_take,List.length_drop,qas]
  omega
 have hj:sIx items.size items.size hi<=items.size:=zpo _ _ (qaV _) hi
 obtain ⟨os,hos,hcs,hds⟩:=id hs
 have hTs:s.TypeIs (.ref sl) "slice":=⟨os,hos,hcs⟩
 unfold getItem
 try with_reducible refine qaO ?_
 first | refine qaW (qaX ?_) | skip
 refine qaW (wpAny_sequenceKey ht.typeIs (by decide) ?_)
 refine qaW (wpAny_callSpecial?_slot (name:=Str.ofString "__getitem__") ht.typeIs PyProof.Rows.slot_tuple_getitem
   (wpAny_call_entry PyProof.Rows.slot_tuple_getitem ht.typeIs entry_tuple_getitem ?_ (args_tuple_getitem _ _)))
 show wpAny _ _ (Builtin.Tuple.tupleItemsOf (.ref t)>>=_) _ _ s
 refine qaW (tupleItemsOf_ ht ?_)
 refine qaW (wpAny_typeOf hTs ?_)
 rw [qa4 (by decide)]
 refine qaW (zcm hs pl pu ?_)
 have hno: ¬((((sIx items.size 0 lo:Nat):Int)==0 && (1:Int)==1 && (sIx items.size items.size hi - sIx items.size 0 lo)==items.size)=true):=by
  intro q
  rw [qaG,qaG] at q
  have q1:((sIx items.size 0 lo:Nat):Int)=0:=eq_of_beq q.1.1
  have q2:sIx items.size items.size hi - sIx items.size 0 lo=items.size:=eq_of_beq q.2
  exact hw ⟨by omega,by omega⟩
 show wpAny _ _ (if (((sIx items.size 0 lo:Nat):Int)==0 && (1:Int)==1 && (sIx items.size items.size hi - sIx items.size 0 lo)==items.size)=true then _ else _) _ _ s
 rw [qa5 hno,zkS]
 first
  | exact qaW (m:=Builtin.Tuple.tupleExact _) (qaC (qaX ⟨_,rfl,qaX h⟩) htake)
  | exact qaW (m:=Builtin.Tuple.tupleExact _) (qaC (qaW (qaX (qaX ⟨_,rfl,qaX h⟩))) htake)
  | exact qaW (qaW (m:=Builtin.Tuple.tupleExact _) (qaC (qaX (qaX ⟨_,rfl,qaX h⟩)) htake))
  | exact qaW (qaW (m:=Builtin.Tuple.tupleExact _) (qaC (qaX ⟨_,rfl,qaX h⟩) htake))
end
end HT
namespace L2
open PySem PySem.Spec PyProof.Rows
noncomputable abbrev TO:=St->Hp->(Option Int->Hp->Prop)->Prop
def PO (X:Cx) (e:Option Expr) (t:TO):Prop:=
 ∀ (pins:List (Addr×Obj)) (s:Shared) (σ:St) (H:Hp) (Q:Option Int->Hp->Prop),Inv X pins σ H s->t σ H Q->
  wpAny (model X.prog X.w) X.A (evalPart e X.env) (fun u s'=> ∃ o H',Inv X pins σ H' s'/\IsPart u o/\Q o H') X.xe s
noncomputable def znj:TO:=fun _ H Q=>Q none H
noncomputable def zrn (t:TE):TO:=fun σ H Q=>t σ H fun x H1=> ∃ i,x= .int i/\Q (some i) H1
theorem zb8 {ns:List Int}: ∀ {us:List Value},zaM (ns.map V.int) us->IntsAre us ns:=by
 induction ns with
 | nil=>intro us r;rw [List.map_nil] at r;cases r;exact .nil
 | cons n ns ih=>
  intro us r
  rw [qaM] at r
  cases r with
  | cons r1 r2=>
   obtain ⟨t,e⟩:=r1
   subst e
   exact .cons n t (ih r2)
section
variable {X:Cx} {e:Expr} {te:TE} {lo hi:Option Expr} {tl th:TO} {pos p2:Pos}
theorem znZ:PO X none znj:=by
 intro pins s σ H Q I h
 rw [evalPart_none]
 exact qaX ⟨none,H,I,.none,h⟩
theorem znx (h:PE X e te):PO X (some e) (zrn te):=by
 intro pins s σ H Q I hw
 rw [evalPart_some]
 refine thn (h pins s σ H _ I hw) fun u s1 ⟨x,H1,I1,r1,q1⟩=> ?_
 obtain ⟨i,rfl,q⟩:=q1
 obtain ⟨t,rfl⟩:=r1
 exact ⟨some i,H1,I1,.int i t,q⟩
def SlR (X:Cx) (r:V->Option Int->Option Int->Hp->VK->Prop):Prop:=
 ∀ (pins:List (Addr×Obj)) (s:Shared) (σ:St) (H:Hp) (x:V) (v vl vu:Value) (lo hi:Option Int) (sl:Addr) (Q:VK),Inv X pins σ H s->zbk x v->s.heap.IsSliceOf sl vl vu .none->IsPart vl lo->IsPart vu hi->r x lo hi H Q->
  ∃ T id,typeLookup (.type T) "__getitem__"=pure (some (.builtin id))/\s.TypeIs v T/\wpAny (model X.prog X.w) X.A (getItem v (.ref sl)) (EP X pins σ Q) X.xe s
theorem SlR.or {r r':V->Option Int->Option Int->Hp->VK->Prop} (h:SlR X r) (h':SlR X r'):SlR X (fun x lo hi H Q=>r x lo hi H Q\/r' x lo hi H Q):=by
 intro pins s σ H x v vl vu lo hi sl Q I rx hs pl pu q
 rcases q with q | q
 ·exact h pins s σ H x v vl vu lo hi sl Q I rx hs pl pu q
 ·exact h' pins s σ H x v vl vu lo hi sl Q I rx hs pl pu q
noncomputable def tSl (r:V->Option Int->Option Int->Hp->VK->Prop) (te:TE) (tl th:TO):TE:=fun σ H Q=>te σ H fun x H1=>tl σ H1 fun l H2=>th σ H2 fun u H3=>r x l u H3 Q
theorem zls {r:V->Option Int->Option Int->Hp->VK->Prop} (hr:SlR X r) (he:PE X e te) (hl:PO X lo tl) (hu:PO X hi th):PE X (.Subscript e (.Slice lo hi none p2) pos) (tSl r te tl th):=by
 intro pins s σ H Q I h
 refine Subscript_ (thn (he pins s σ H _ I h) fun v s1 ⟨x,H1,I1,r1,q1⟩=> ?_)
 refine wpAny_Slice (thn (hl pins s1 σ H1 _ I1 q1) fun vl s2 ⟨l,H2,I2,pl,q2⟩=>thn (hu pins s2 σ H2 _ I2 q2) fun vu s3 ⟨u,H3,I3,pu,q3⟩=> ?_)
 rw [evalPart_none]
 refine qaX ?_
 have I4:Inv X pins σ H3 {s3 with heap:=s3.heap.push {cls:= .type "slice",data:= .fields #[vl,vu,.none]}}:=I3.kept (t':=s3.toks) fun b ob q=>qag _ q
 obtain ⟨T,id,hT,ht,hg⟩:=hr pins {s3 with heap:=s3.heap.push {cls:= .type "slice",data:= .fields #[vl,vu,.none]}} σ H3 x v vl vu l u s3.heap.objs.size Q I4 r1 (Heap.IsSliceOf.new ..) pl pu q3
 show wpAny (model X.prog X.w) X.A (subscriptTail e (.Slice lo hi none p2) v (.ref s3.heap.objs.size)) (EP X pins σ Q) X.xe {s3 with heap:=s3.heap.push {cls:= .type "slice",data:= .fields #[vl,vu,.none]}}
 exact tail_any (ops:=[.ref s3.heap.objs.size,v]) ht hT hg (by with_unfolding_all rfl)
noncomputable def zmq (xs:List V) (lo hi:Option Int):List V:=(xs.drop (HT.sIx xs.length 0 lo)).take (HT.sIx xs.length xs.length hi - HT.sIx xs.length 0 lo)
theorem zeG (xs:List V) (lo hi:Option Int):(zmq xs lo hi).length<=xs.length:=by
 unfold zmq
 rw [List.length_take,List.length_drop]
 omega
noncomputable def zsy (K:W.Frag):V->Option Int->Option Int->Hp->VK->Prop:=fun x lo hi H Q=> ∃ a xs,x= .ref a/\SqT K H a xs/\
 ¬ (HT.sIx xs.length 0 lo=0/\HT.sIx xs.length xs.length hi=xs.length)/\ ∀ p,H p=none->Q (.ref p) (upd H p (.tup (zmq xs lo hi)))
theorem zpV:SlR X (zsy X.K):=by
 intro pins s σ H x v vl vu lo hi sl Q I rx hs pl pu h
 obtain ⟨a,xs,rfl,hx,hw,q⟩:=h
 cases rx
 obtain ⟨its,r,ht,hz⟩:=I.tuple hx
 have hlen:its.toArray.size=xs.length:=by rw [qaA];exact r.length.symm
 refine ⟨"tuple",_,PyProof.Rows.slot_tuple_getitem.lookup,ht.typeIs,?_⟩
 refine HT.zdN ht hs pl pu (by rw [hlen];exact hw) ?_ (by rw [hlen];exact hz)
 rw [hlen]
 refine ⟨.ref s.heap.objs.size,_,I.laid (t':=s.toks) (o:= .tup (zmq xs lo hi)) (fun b ob q=>qag _ q) (qaV _) ?_,rfl,q _ (I.hok.fresh (qaV _))⟩
 exact ⟨qaS (zeG xs lo hi) hz,_,(r.drop (HT.sIx xs.length 0 lo)).take (HT.sIx xs.length xs.length hi - HT.sIx xs.length 0 lo),zh7.new _ _⟩
noncomputable def zru (K:W.Frag):R2:=fun x y H Q=> ∃ a b xs ys,x= .ref a/\y= .ref b/\SqT K H a xs/\SqT K H b ys/\xs≠[]/\xs.length+ys.length<=sizeLine/\
 (ys=[]->Q (.ref a) H)/\(ys≠[]-> ∀ p,H p=none->Q (.ref p) (upd H p (.tup (xs++ys))))
theorem zaM.nil_iff {xs:List V} {us:List Value} (r:zaM xs us):us=[]↔xs=[]:=by
 cases r with
 | nil=>simp
 | cons _ _=>simp
theorem zot:OpR X (binaryOp .Add) (zru X.K):=by
 intro pins s σ H x y v u Q I rx ry h
 obtain ⟨a,b,xs,ys,rfl,rfl,ha,hb,hx,hz,q1,q2⟩:=h
 cases rx
 cases ry
 obtain ⟨its,r1,p1,_⟩:=I.tuple ha
 obtain ⟨its2,r2,p2,_⟩:=I.tuple hb
 refine HT.zon p1 p2 (fun z=>hx (r1.nil_iff.mp z)) (fun z=>⟨.ref a,H,I,rfl,q1 (r2.nil_iff.mp z)⟩) (fun z=> ?_) (by rw [<- r1.length, <-r2.length];exact hz)
 refine ⟨.ref s.heap.objs.size,_,I.laid (t':=s.toks) (o:= .tup (xs++ys)) (fun b ob q=>qag _ q) (qaV _) ?_,rfl,q2 (fun w=>z (r2.nil_iff.mpr w)) _ (I.hok.fresh (qaV _))⟩
 exact ⟨by rw [qav];exact hz,_,r1.append r2,zh7.new _ _⟩
end
noncomputable def ixN (n:Nat) (i:Int):Option Nat:=if 0<=i then (if i<n then some i.toNat else none) else if -(n:Int)<=i then some (i+n).toNat else none
noncomputable def atI {α:Type} (xs:List α) (i:Int):Option α:=(ixN xs.length i).bind fun j=>xs[j]?
theorem zjT {n:Nat} {i:Int} {j:Nat} (h:ixN n i=some j):seqIndex? i n=some j/\j<n/\ -(n:Int)<=i/\i<n:=by
 unfold ixN at h
 by_cases h0:0<=i
 ·rw [qa4 h0] at h
  by_cases h1:i<n
  ·rw [qa4 h1] at h
   have e:i.toNat=j:=Option.some.inj h
   exact ⟨by rw [seqIndex_of h0 h1,e],by omega,by omega,h1⟩
  ·rw [qa5 h1] at h;cases h
 ·rw [qa5 h0] at h
  by_cases h1: -(n:Int)<=i
  ·rw [qa4 h1] at h
   have e:(i+n).toNat=j:=Option.some.inj h
   exact ⟨by rw [seqIndex_neg (by omega) h1,e],by omega,h1,by omega⟩
  ·rw [qa5 h1] at h;cases h
theorem zks {α:Type} {xs:List α} {i:Int} {v:α} (h:atI xs i=some v): ∃ j,seqIndex? i xs.length=some j/\xs[j]? = some v/\j<xs.length/\ -(xs.length:Int)<=i/\i<xs.length:=by
 unfold atI at h
 cases e:ixN xs.length i with
 | none=>rw [e] at h;cases h
 | some j=>
  rw [e] at h
  obtain ⟨h1,h2,h3,h4⟩:=zjT e
  exact ⟨j,h1,h,h2,h3,h4⟩
theorem zfe {α:Type} {xs:List α} {j:Nat} {v:α} (h:xs[j]? = some v):atI xs (j:Int)=some v:=by
 have hj:j<xs.length:=(qac.mp h).1
 have e:ixN xs.length (j:Int)=some j:=by
  unfold ixN
  rw [qa4 (by omega),qa4 (by omega)];simp
 unfold atI;rw [e];exact h
theorem zlL {α:Type} (xs:List α) (v:α):atI (xs++[v]) (-1)=some v:=by
 have hl:(xs++[v]).length=xs.length+1:=by simp
 have e:ixN (xs++[v]).length (-1)=some xs.length:=by
  unfold ixN
  rw [hl,qa5 (by decide),qa4 (by omega)]
  congr 1
  omega
 unfold atI
 rw [e]
 show (xs++[v])[xs.length]? = some v
 simp
def zfi (b:Expr):Prop:= ∀ o i,subscripted b false o i=operate [o,i] (getItem o i)
def IxR (X:Cx) (r:R2):Prop:=
 ∀ (value slice:Expr) (pins:List (Addr×Obj)) (s:Shared) (σ:St) (H:Hp) (x y:V) (v u:Value) (Q:VK),Inv X pins σ H s->zbk x v->zbk y u->r x y H Q->
  subscripted slice false v u=operate [v,u] (getItem v u)->wpAny (model X.prog X.w) X.A (subscriptTail value slice v u) (EP X pins σ Q) X.xe s
def MtR (X:Cx) (id:String) (r:V->List V->Hp->VK->Prop):Prop:=
 ∀ (pins:List (Addr×Obj)) (s:Shared) (σ:St) (H:Hp) (x:V) (xs:List V) (v:Value) (us:List Value) (Q:VK),Inv X pins σ H s->zbk x v->zaM xs us->r x xs H Q->
  wpAny (model X.prog X.w) X.A (call (.builtin id) (v::us)) (EP X pins σ Q) X.xe s
section
variable {X:Cx} {a b:Expr} {ta tb:TE} {pos:Pos}
theorem IxR.or {r r':R2} (h:IxR X r) (h':IxR X r'):IxR X (fun x y H Q=>r x y H Q\/r' x y H Q):=by
 intro value slice pins s σ H x y v u Q I rx ry q hs
 rcases q with q | q
 ·exact h value slice pins s σ H x y v u Q I rx ry q hs
 ·exact h' value slice pins s σ H x y v u Q I rx ry q hs
theorem MtR.or {id:String} {r r':V->List V->Hp->VK->Prop} (h:MtR X id r) (h':MtR X id r'):MtR X id (fun x xs H Q=>r x xs H Q\/r' x xs H Q):=by
 intro pins s σ H x xs v us Q I rx rs q
 rcases q with q | q
 ·exact h pins s σ H x xs v us Q I rx rs q
 ·exact h' pins s σ H x xs v us Q I rx rs q
theorem zq9 {r:R2} (hr:IxR X r) (ha:PE X a ta) (hb:PE X b tb) (hs:zfi b):PE X (.Subscript a b pos) (tOp r ta tb):=by
 intro pins s σ H Q I h
 exact Subscript_ (zrL ha hb I h fun v u s2 x y H2 I2 rx ry q=>hr a b pins s2 σ H2 x y v u Q I2 rx ry q (hs _ _))
noncomputable def zsx (K:W.Frag):R2:=fun x y H Q=> ∃ p xs i v,x= .ref p/\y= .int i/\SqL K H p xs/\atI xs i=some v/\Q v H
noncomputable def zsA (K:W.Frag):R2:=fun x y H Q=> ∃ p xs i v,x= .ref p/\y= .int i/\SqT K H p xs/\atI xs i=some v/\Q v H
theorem zni:IxR X (zsx X.K):=by
 intro value slice pins s σ H x y v u Q I rx ry h hs
 obtain ⟨p,xs,i,z,rfl,rfl,hq,he,q⟩:=h
 cases rx
 obtain ⟨t,rfl⟩:=ry
 obtain ⟨its,r,pl,hz⟩:=I.list hq
 obtain ⟨j,h1,h2,h3,h4,h5⟩:=zks he
 obtain ⟨w,ew,rw'⟩:=r.get h2
 have hl:=r.length
 have hn:=zhF
 have fin:EP X pins σ Q w s:=⟨z,H,I,rw',q⟩
 by_cases h0:0<=i
 ·have hj:i.toNat=j:=by
   rw [seqIndex_of h0 h5] at h1
   exact Option.some.inj h1
  exact item_listR pl.isList h0 (by omega) (by rw [hj];simpa using ew) fin hs
 ·have hj:(i+(its.toArray.size:Int)).toNat=j:=by
   rw [seqIndex_neg (by omega) h4] at h1
   rw [qaA, <-hl]
   exact Option.some.inj h1
  exact subscriptTail_builtinR (x:=w) pl.isList.typeIs slot_list_getitem.lookup
   (wpAny_getItem_list_neg (Q:=fun r s'=>r=w/\EP X pins σ Q r s') pl.isList (by omega) (by rw [qaA]<;>omega) (by omega) (by rw [hj];simpa using ew) ⟨rfl,fin⟩) hs
theorem zoZ:IxR X (zsA X.K):=by
 intro value slice pins s σ H x y v u Q I rx ry h hs
 obtain ⟨p,xs,i,z,rfl,rfl,hq,he,q⟩:=h
 cases rx
 obtain ⟨t,rfl⟩:=ry
 obtain ⟨its,r,pl,hz⟩:=I.tuple hq
 obtain ⟨j,h1,h2,h3,h4,h5⟩:=zks he
 obtain ⟨w,ew,rw'⟩:=r.get h2
 have hl:=r.length
 have hn:=zhF
 have fin:EP X pins σ Q w s:=⟨z,H,I,rw',q⟩
 exact subscriptTail_builtinR (x:=w) pl.typeIs slot_tuple_getitem.lookup
  (getItem_tuple (j:=j) (Q:=fun r s'=>r=w/\EP X pins σ Q r s') pl (by omega) (by omega) (by rw [qaA, <-hl];exact h1) (by simpa using ew) ⟨rfl,fin⟩) hs
theorem zig (its:List Value) (n j:Nat) (u:Value):Obj.mapSeq (·.setIfInBounds j u) {cls:= .type "list",data:= .seq its.toArray n}={cls:= .type "list",data:= .seq (its.set j u).toArray n}:=by
 simp [Obj.mapSeq]
theorem Inv.lst {pins:List (Addr×Obj)} {σ:St} {H:Hp} {s:Shared} {p:Addr} {xs:List V} (I:Inv X pins σ H s) (h:H p=some (.lst xs)):
  ∃ (its:List Value) (n:Nat),zaM xs its/\s.heap.get? p=some {cls:= .type "list",data:= .seq its.toArray n}/\xs.length<=sizeLine:=by
 obtain ⟨z,its,n,r,e⟩:=I.hok p _ h
 exact ⟨its,n,r,e,z⟩
theorem Inv.lstUpd {pins:List (Addr×Obj)} {σ:St} {H:Hp} {s:Shared} {p:Addr} {xs ys:List V} {its its':List Value} {n n':Nat} {f:Obj->Obj} (I:Inv X pins σ H s) (h:H p=some (.lst xs))
  (ho:s.heap.get? p=some {cls:= .type "list",data:= .seq its.toArray n}) (hf:f {cls:= .type "list",data:= .seq its.toArray n}={cls:= .type "list",data:= .seq its'.toArray n'}) (r:zaM ys its') (hz:ys.length<=sizeLine) (t:Nat):
  Inv X pins σ (upd H p (.lst ys)) {s with heap:=s.heap.update p f,toks:=t}:=by
 have e:(s.heap.update p f).get? p=some {cls:= .type "list",data:= .seq its'.toArray n'}:=by
  rw [qal f ho (by rw [hf]<;>rfl),hf]
 refine I.write (x:=p) (e:=p) (by rw [h];trivial) (.inl rfl) (fun b u hb q=>(qah _ _ (Ne.symm hb)).trans q) ⟨_,e⟩ ?_
 exact ⟨hz,its',n',r,e⟩
noncomputable def zrc:V->V->V->Hp->(Hp->Prop)->Prop:=fun o i v H Q=> ∃ p xs k j,o= .ref p/\i= .int k/\H p=some (.lst xs)/\ixN xs.length k=some j/\Q (upd H p (.lst (xs.set j v)))
theorem zlo:zox X zrc:=by
 intro pins s σ H o i v ov iv u Q I ro ri rv h
 obtain ⟨p,xs,k,j,rfl,rfl,hp,hj,q⟩:=h
 cases ro
 obtain ⟨t,rfl⟩:=ri
 obtain ⟨its,n,r,ho,hz⟩:=I.lst hp
 obtain ⟨h1,h2,h3,h4⟩:=zjT hj
 have hl:=r.length
 have hn:=zhF
 have I':Inv X pins σ (upd H p (.lst (xs.set j v))) {s with heap:=s.heap.update p (Obj.mapSeq (·.setIfInBounds j u))}:=
  I.lstUpd hp ho (zig its n j u) (r.set rv j) (by rw [qaI];exact hz) s.toks
 by_cases h0:0<=k
 ·have hk:k.toNat=j:=by
   rw [seqIndex_of h0 h4] at h1
   exact Option.some.inj h1
  exact W.ki_setAt ho h0 (by omega) (by rw [qaA, <-hl];exact h4) (by rw [hk];exact ⟨_,I',q⟩)
 ·have hk:(k+(its.toArray.size:Int)).toNat=j:=by
   rw [seqIndex_neg (by omega) h3] at h1
   rw [qaA, <-hl]
   exact Option.some.inj h1
  exact W.ki_setBack ho (by omega) (by rw [qaA, <-hl];exact h3) (by omega) (by rw [hk];exact ⟨_,I',q⟩)
theorem zgm (lo hi:Option Int) (n:Nat):(sliceBounds lo hi none n).1=((HT.sIx n 0 lo:Nat):Int)/\(sliceBounds lo hi none n).2.1=((HT.sIx n n hi:Nat):Int)/\(sliceBounds lo hi none n).2.2=1:=by
 refine ⟨?_,?_,rfl⟩
 ·cases lo with
  | none=>simp [sliceBounds,HT.sIx]
  | some i=>
   simp only [sliceBounds,HT.sIx,Option.getD_none,show (1:Int)>0 by decide,if_true]
   by_cases h:i<0
   ·simp only [h,if_true]<;>omega
   ·simp only [h,if_false]<;>omega
 ·cases hi with
  | none=>simp [sliceBounds,HT.sIx]
  | some i=>
   simp only [sliceBounds,HT.sIx,Option.getD_none,show (1:Int)>0 by decide,if_true]
   by_cases h:i<0
   ·simp only [h,if_true]<;>omega
   ·simp only [h,if_false]<;>omega
theorem zfo (its:List Value) (lo hi:Option Int):slicePick its.toArray lo hi none=((its.drop (HT.sIx its.length 0 lo)).take (HT.sIx its.length its.length hi - HT.sIx its.length 0 lo)).toArray:=by
 obtain ⟨h1,h2,h3⟩:=zgm lo hi its.toArray.size
 unfold slicePick
 rw [h1,h2,h3]
 simp only [sliceRange_one,pick_run,qaA]<;>rfl
noncomputable def zsB (K:W.Frag):V->Option Int->Option Int->Hp->VK->Prop:=fun x lo hi H Q=> ∃ a xs,x= .ref a/\SqL K H a xs/\ ∀ p,H p=none->Q (.ref p) (upd H p (.lst (zmq xs lo hi)))
theorem znR:SlR X (zsB X.K):=by
 intro pins s σ H x v vl vu lo hi sl Q I rx hs pl pu h
 obtain ⟨a,xs,rfl,hx,q⟩:=h
 cases rx
 obtain ⟨its,r,ht,hz⟩:=I.list hx
 have hlen:=r.length
 refine ⟨"list",_,slot_list_getitem.lookup,ht.isList.typeIs,?_⟩
 refine wpAny_getItem_list_slice ht.isList hs pl pu .none (by simp) ?_ (by rw [qaA]<;>omega)
 rw [zfo, <-hlen]
 refine ⟨.ref s.heap.objs.size,_,I.laid (t':=s.toks) (o:= .lst (zmq xs lo hi)) (fun b ob q=>qag _ q) (qaV _) ?_,rfl,q _ (I.hok.fresh (qaV _))⟩
 exact ⟨qaS (zeG xs lo hi) hz,_,0,(r.drop (HT.sIx xs.length 0 lo)).take (HT.sIx xs.length xs.length hi - HT.sIx xs.length 0 lo),qar _ rfl⟩
theorem zgE:zaD X (.builtin "len") (fun xs H Q=> ∃ p ys,xs=[.ref p]/\(SqL X.K H p ys\/SqT X.K H p ys)/\Q (.int ys.length) H):=by
 intro pins s σ H xs us Q I r h
 obtain ⟨p,ys,rfl,hq,q⟩:=h
 obtain ⟨u,rfl,rx⟩:=zcI r
 cases rx
 have hn:=zhF
 rcases hq with hq | hq
 ·obtain ⟨its,r',pl,hz⟩:=I.list hq
  have hlen:=r'.length
  exact Calls.call_len_list pl.isList (by simp only [qaA]<;>omega) ⟨.int ys.length,H,I.tok _,⟨s.toks+1,by rw [qaA,hlen]⟩,q⟩
 ·obtain ⟨its,r',pl,hz⟩:=I.tuple hq
  have hlen:=r'.length
  exact len_tuple pl (by simp only [qaA]<;>omega) ⟨.int ys.length,H,I.tok _,⟨s.toks+1,by rw [qaA,hlen]⟩,q⟩
theorem zaD.or {f:Value} {r r':List V->Hp->VK->Prop} (h:zaD X f r) (h':zaD X f r'):zaD X f (fun xs H Q=>r xs H Q\/r' xs H Q):=by
 intro pins s σ H xs us Q I rs q
 rcases q with q | q
 ·exact h pins s σ H xs us Q I rs q
 ·exact h' pins s σ H xs us Q I rs q
theorem zfV:zaD X (.type "list") (fun xs H Q=> ∃ p ys,xs=[.ref p]/\(SqL X.K H p ys\/SqT X.K H p ys)/\ ∀ l,H l=none->Q (.ref l) (upd H l (.lst ys))):=by
 intro pins s σ H xs us Q I r h
 obtain ⟨p,ys,rfl,hq,q⟩:=h
 obtain ⟨u,rfl,rx⟩:=zcI r
 cases rx
 have fin: ∀ (its:List Value),zaM ys its->ys.length<=sizeLine-> ∀ (h':Heap) (c':Nat),(∀ b o',s.heap.get? b=some o'->h'.get? b=some o')->
   h'.get? s.heap.objs.size=some {cls:= .type "list",dict:=none,data:= .seq its.toArray c',slots:= #[]}->EP X pins σ Q (.ref s.heap.objs.size) {s with heap:=h'}:=fun its r' hz h' c' kp e=>
  ⟨.ref s.heap.objs.size,_,I.laid (t':=s.toks) kp (qaV _) (show zbb X.prog X.w _ h' _ (.lst ys) from ⟨hz,its,c',r',e⟩),rfl,q _ (I.hok.fresh (qaV _))⟩
 rcases hq with hq | hq
 ·obtain ⟨its,r',pl,hz⟩:=I.list hq
  have hlen:=r'.length
  obtain ⟨o,ho,hc,n,hd⟩:=pl.isList
  exact call_list_seq p (.inl rfl) ho hc hd (fun h' c' kp e=>fin its r' hz h' c' kp e) (by simp only [qaA]<;>omega)
 ·obtain ⟨its,r',pl,hz⟩:=I.tuple hq
  have hlen:=r'.length
  obtain ⟨o,ho,hc,n,hd⟩:=pl
  exact call_list_seq p (.inr rfl) ho hc hd (fun h' c' kp e=>fin its r' hz h' c' kp e) (by simp only [qaA]<;>omega)
theorem zfF:zaD X (.type "tuple") (fun xs H Q=> ∃ p ys,xs=[.ref p]/\((SqL X.K H p ys/\ ∀ l,H l=none->Q (.ref l) (upd H l (.tup ys)))\/(SqT X.K H p ys/\Q (.ref p) H))):=by
 intro pins s σ H xs us Q I r h
 obtain ⟨p,ys,rfl,h⟩:=h
 obtain ⟨u,rfl,rx⟩:=zcI r
 cases rx
 rcases h with ⟨hq,q⟩ | ⟨hq,q⟩
 ·obtain ⟨its,r',pl,hz⟩:=I.list hq
  have hlen:=r'.length
  refine call_tuple_list pl.isList (fun h' kp=> ?_) (by simp only [qaA]<;>omega)
  have I1:Inv X pins σ H {s with heap:=h'}:=I.kept (t':=s.toks) kp
  have I2:Inv X pins σ (upd H h'.objs.size (.tup ys)) {s with heap:=h'.push {cls:= .type "tuple",data:= .seq its.toArray}}:=
   I1.laid (t':=s.toks) (fun b o e=>qag _ e) (qaV _) (show zbb X.prog X.w _ _ _ (.tup ys) from ⟨hz,its,r',zh7.new _ _⟩)
  exact ⟨.ref h'.objs.size,_,I2,rfl,q _ (I1.hok.fresh (qaV _))⟩
 ·obtain ⟨its,r',pl,hz⟩:=I.tuple hq
  exact call_tuple_same pl ⟨.ref p,H,I,rfl,q⟩
def tyV (K:W.Frag) (T:String) (x:V) (H:Hp):Prop:=match x with
 | .str _=>T="str"
 | .int _=>T="int"
 | .ref p=>(T="list"/\ ∃ xs,SqL K H p xs)\/(T="tuple"/\ ∃ xs,SqT K H p xs)\/
   (T="dict"/\((∃ kvs,H p=some (.dK kvs))\/ ∃ kvs,H p=some (.dT kvs)))\/(T="set"/\ ∃ S n,H p=some (.set S n))
 | _=>False
theorem zpP {pins:List (Addr×Obj)} {σ:St} {H:Hp} {s:Shared} {T:String} {x:V} {v:Value} (I:Inv X pins σ H s) (r:zbk x v) (ty:tyV X.K T x H):
  s.TypeIs v T/\ ∀ a,v= .ref a-> ∃ ob,s.heap.get? a=some ob/\ob.dict=none:=by
 cases x with
 | str z=>
  obtain ⟨t,rfl⟩:=r
  cases (show T="str" from ty)
  exact ⟨typeIs_str s z t,fun _ e=>nomatch e⟩
 | int i=>
  obtain ⟨t,rfl⟩:=r
  cases (show T="int" from ty)
  exact ⟨typeIs_int s i t,fun _ e=>nomatch e⟩
 | ref p=>
  cases r
  rcases ty with ⟨rfl,xs,hq⟩ | ⟨rfl,xs,hq⟩ | ⟨rfl,hk⟩ | ⟨rfl,S,n,hk⟩
  ·obtain ⟨its,_,pl,_⟩:=I.list hq
   refine ⟨pl.isList.typeIs,fun a e=> ?_⟩
   cases e
   obtain ⟨o,n,e,c,hd,_⟩:=pl
   exact ⟨o,e,hd⟩
  ·obtain ⟨its,_,⟨o,e,c,n,_,hd⟩,_⟩:=I.tupleD hq
   refine ⟨⟨o,e,c⟩,fun a e2=> ?_⟩
   cases e2
   exact ⟨o,e,hd⟩
  ·have z: ∃ o,s.heap.get? p=some o/\o.ExactDict:=by
    rcases hk with ⟨kvs,hk⟩ | ⟨kvs,hk⟩
    ·obtain ⟨_,_,_,_,o,_,_,e,ex,_⟩:=I.hok p _ hk
     exact ⟨o,e,ex⟩
    ·obtain ⟨_,_,_,_,o,_,_,e,ex,_⟩:=I.hok p _ hk
     exact ⟨o,e,ex⟩
   obtain ⟨o,e,ex⟩:=z
   refine ⟨⟨o,e,ex.1⟩,fun a e2=> ?_⟩
   cases e2
   exact ⟨o,e,ex.2.1⟩
  ·obtain ⟨o,_,_,_,e,ex,_⟩:=I.hok p _ hk
   refine ⟨⟨o,e,ex.1⟩,fun a e2=> ?_⟩
   cases e2
   exact ⟨o,e,ex.2.1⟩
 | _=>exact qa0 ty
noncomputable def tBM (K:W.Frag) (T:String) (r:V->List V->Hp->VK->Prop) (to:TE) (t:TA):TE:=fun σ H Q=>to σ H fun x H1=>tyV K T x H1/\t σ H1 fun xs H2=>r x xs H2 Q
variable {o e:Expr} {es:List Expr} {to:TE} {t:TA} {name:Str} {apos cpos:Pos} {T id:String} {r:V->List V->Hp->VK->Prop}
theorem zjv (pa:PlainAttrs T) (slot:Slot T name id) (hty:typeOf (.builtin id)=pure (.type "method_descriptor")) (hm:MtR X id r) (ho:PE X o to) (ha:PA X (e::es) t)
  (hbase:attributeBase o name X.env (eval o X.env)=eval o X.env:=by rfl)
  (hfew:((backTo cpos (starEach (e::es) X.env)).all (fun x=> !x.1) && (backToKw cpos (keywordEach [] X.env)).all (fun x=>x.1.isSome)
    && decide ((e::es).length+([]:List Keyword).length+(if ([]:List Keyword).isEmpty then 0 else 1)<30))=true:=by rfl)
  (hline:(apos.endLine==cpos.line)=true:=by rfl) (hs:starEach (e::es) X.env=(false,eval e X.env)::starEach es X.env:=by rfl) (hplain:(backTo cpos (starEach es X.env)).any (·.1)=false:=by rfl):
  PE X (.Call (.Attribute o name apos) (e::es) [] cpos) (tBM X.K T r to t):=by
 intro pins s σ H Q I h
 refine wpAny_Call_method_late hbase hfew hline rfl (thn (ho pins s σ H _ I h) fun v s1 ⟨x,H1,I1,r1,ty,q1⟩=> ?_)
 obtain ⟨h1,h2⟩:=zpP I1 r1 ty
 refine ⟨T,id,pa,slot,hty,h1,h2,?_⟩
 have hA:=ha cpos pins s1 σ H1 _ I1 q1
 rw [hs] at hA ⊢
 refine Calls.callWith_builtin (by show (false || (backTo cpos (starEach es X.env)).any (·.1))=false;rw [hplain]<;>rfl) (Calls.evalArgs_plain ?_)
 exact thn hA fun us s2 ⟨vs,H2,I2,r2,q2⟩=>hm pins s2 σ H2 x vs v us Q I2 r1 r2 q2
end
def MtM (X:Cx) (id:String) (r:V->List V->Hp->VK->Prop):Prop:=
 ∀ (pins:List (Addr×Obj)) (s:Shared) (σ:St) (H:Hp) (x:V) (xs:List V) (v:Value) (us:List Value) (Q:VK),Inv X pins σ H s->zbk x v->zaM xs us->r x xs H Q->
  wpAny (model X.prog X.w) X.A (call (.builtin id) (v::us)) (EP X pins σ Q) X.xe s
theorem zaM.one: ∀ {x:V} {us:List Value},zaM [x] us-> ∃ u,us=[u]/\zbk x u
 | _,_,.cons r .nil=>⟨_,rfl,r⟩
theorem zaM.two: ∀ {x y:V} {us:List Value},zaM [x,y] us-> ∃ u v,us=[u,v]/\zbk x u/\zbk y v
 | _,_,_,.cons r (.cons q .nil)=>⟨_,_,rfl,r,q⟩
theorem zaM.zero: ∀ {us:List Value},zaM [] us->us=[]
 | _,.nil=>rfl
theorem zaM.dropLast {xs:List V} {us:List Value} (h:zaM xs us):zaM xs.dropLast us.dropLast:=by
 induction h with
 | nil=>exact .nil
 | cons r t ih=>
  cases t with
  | nil=>exact .nil
  | cons q t'=>exact .cons r ih
theorem zaM.eraseIdx: ∀ {xs:List V} {us:List Value} (i:Nat),zaM xs us->zaM (xs.eraseIdx i) (us.eraseIdx i)
 | _,_,_,.nil=> .nil
 | _,_,0,.cons _ t=>t
 | _,_,i+1,.cons r t=> .cons r (zaM.eraseIdx i t)
theorem zaM.reverse {xs:List V} {us:List Value} (h:zaM xs us):zaM xs.reverse us.reverse:=by
 induction h with
 | nil=>exact .nil
 | cons r t ih=>rw [List.reverse_cons,List.reverse_cons];exact zaM.append ih (.cons r .nil)
theorem zaM.rep {xs:List V} {us:List Value} (h:zaM xs us): ∀ k:Nat,zaM (List.replicate k xs).flatten (List.replicate k us).flatten
 | 0=> .nil
 | k+1=>by
  rw [List.replicate_succ,List.replicate_succ,List.flatten_cons,List.flatten_cons]
  exact zaM.append h (zaM.rep h k)
theorem zgf {α:Type}: ∀ (l:List α) (i:Nat),(l.eraseIdx i).length<=l.length
 | [],_=>qaV _
 | _::_,0=>Nat.le_succ _
 | _::r,i+1=>Nat.succ_le_succ (zgf r i)
theorem zgF (its:List Value): ∀ (k:Nat) (acc:List Value),
  List.foldl (fun x1 x2=>x1++x2) acc.toArray (List.replicate k its.toArray)=(acc++(List.replicate k its).flatten).toArray
 | 0,acc=>by simp
 | k+1,acc=>by
  have e:acc.toArray++its.toArray=(acc++its).toArray:=by simp
  have e2:(acc++its)++(List.replicate k its).flatten=acc++(List.replicate (k+1) its).flatten:=by
   rw [List.replicate_succ,List.flatten_cons,List.append_assoc]
  rw [<- e2, <-zgF its k (acc++its), <-e,List.replicate_succ,List.foldl_cons]
section
variable {X:Cx} {pins:List (Addr×Obj)} {σ:St} {H:Hp} {s:Shared} {l b:Addr} {xs ys zs:List V}
theorem Inv.lset {its its':List Value} {n:Nat} {f:Array Value->Array Value} {t':Nat} (I:Inv X pins σ H s) (hH:H l=some (.lst xs))
  (e:s.heap.get? l=some {cls:= .type "list",data:= .seq its.toArray n}) (hf:f its.toArray=its'.toArray) (hv:zaM ys its') (hz:ys.length<=sizeLine):
  Inv X pins σ (upd H l (.lst ys)) {s with heap:=s.heap.update l (Obj.mapSeq f),toks:=t'}:=by
 have q:=PySem.IsL.update e f
 rw [hf] at q
 refine I.write (x:=l) (e:=l) (by rw [hH];exact trivial) (.inl rfl) (fun b' u hb hu=>(qah s.heap (Obj.mapSeq f) (Ne.symm hb)).trans hu) ⟨_,q⟩ ?_
 exact ⟨hz,its',_,hv,q⟩
theorem Inv.lnew {its:List Value} {t':Nat} (I:Inv X pins σ H s) (hv:zaM ys its) (hz:ys.length<=sizeLine):
  Inv X pins σ (upd H s.heap.objs.size (.lst ys)) {s with heap:=s.heap.push {cls:= .type "list",data:= .seq its.toArray},toks:=t'}:=
 I.laid (fun _ _ q=>qag _ q) (qaV _) ⟨hz,its,0,hv,qar _ rfl⟩
theorem Inv.fresh (I:Inv X pins σ H s):H s.heap.objs.size=none:=I.hok.fresh (qaV _)
theorem Inv.lstM (I:Inv X pins σ H s) (hH:H l=some (.lst xs)):xs.length<=sizeLine/\ ∃ (its:List Value) (n:Nat),zaM xs its/\xs.length=its.length/\s.heap.get? l=some {cls:= .type "list",data:= .seq its.toArray n}:=by
 obtain ⟨z,its,n,r,e⟩:=I.hok l _ hH
 exact ⟨z,its,n,r,r.length,e⟩
end
section
variable {X:Cx}
noncomputable def zoe:V->List V->Hp->VK->Prop:=fun x vs H Q=> ∃ l xs y,x= .ref l/\vs=[y]/\H l=some (.lst xs)/\xs.length<sizeLine/\Q .non (upd H l (.lst (xs++[y])))
theorem zgr:MtM X "list.append" zoe:=by
 intro pins s σ H x vs v us Q I rx rv h
 obtain ⟨l,xs,y,rfl,rfl,hH,hz,q⟩:=h
 cases rx
 obtain ⟨u,rfl,ru⟩:=rv.one
 obtain ⟨z,its,n,r,hl,e⟩:=I.lstM hH
 refine call_meets F.slot_list_append ⟨_,e,rfl⟩ F.entry_list_append (F.args_list_append_2 _ _) (PySem.list_append l its.toArray n u (by rw [qaA];omega)) ⟨e,?_⟩
 refine ⟨.non,_,I.lset (its':=its++[u]) hH e (by simp) (r.append (.cons ru .nil)) ?_,rfl,q⟩
 rw [qav,List.length_singleton]
 omega
noncomputable def zqq:V->List V->Hp->VK->Prop:=fun x vs H Q=> ∃ l xs i k y,x= .ref l/\vs=[.int i]/\H l=some (.lst xs)/\ -(2^63)<=i/\i<2^63/\seqIndex? i xs.length=some k/\xs[k]? = some y/\Q y (upd H l (.lst (xs.eraseIdx k)))
theorem zlE:MtM X "list.pop" zqq:=by
 intro pins s σ H x vs v us Q I rx rv h
 obtain ⟨l,xs,i,k,y,rfl,rfl,hH,h1,h2,hk,hy,q⟩:=h
 cases rx
 obtain ⟨u,rfl,ru⟩:=rv.one
 obtain ⟨t,rfl⟩:=ru
 obtain ⟨z,its,n,r,hl,e⟩:=I.lstM hH
 obtain ⟨w,hw,rw'⟩:=r.get hy
 refine call_meets F.slot_list_pop ⟨_,e,rfl⟩ F.entry_list_pop (F.args_list_pop_2 _ _)
  (MeetsSeq.list_pop_at l its.toArray n i t k w (fitsIndex_both h1 h2) (by rw [qaA, <-hl];exact hk) (by rw [<- Array.getElem?_toList];exact hw) (by rw [qaA];omega)) ⟨e,?_⟩
 refine ⟨y,_,I.lset (its':=its.eraseIdx k) hH e ?_ (r.eraseIdx k) ?_,rw',q⟩
 ·show its.toArray.eraseIdxIfInBounds k=(its.eraseIdx k).toArray
  rw [List.eraseIdxIfInBounds_toArray]
 ·have:=zgf xs k
  omega
noncomputable def zsT:R2:=fun x y H Q=> ∃ l b xs zs,x= .ref l/\y= .ref b/\H l=some (.lst xs)/\H b=some (.lst zs)/\xs.length+zs.length<=sizeLine/\ ∀ p,H p=none->Q (.ref p) (upd H p (.lst (xs++zs)))
theorem zpq:OpR X (binaryOp .Add) zsT:=by
 intro pins s σ H x y v u Q I rx ry h
 obtain ⟨l,b,xs,zs,rfl,rfl,hH,hB,hz,q⟩:=h
 cases rx
 cases ry
 obtain ⟨z,its,n,r,hl,e⟩:=I.lstM hH
 obtain ⟨z2,its2,n2,r2,hl2,e2⟩:=I.lstM hB
 refine PySem.P.add_list e e2 ?_ (by rw [qaA,qaA];omega)
 have ea:its.toArray++its2.toArray=(its++its2).toArray:=by simp
 rw [ea]
 exact ⟨.ref _,_,I.lnew (t':=s.toks) (r.append r2) (by rw [qav];omega),rfl,q _ I.fresh⟩
theorem zn1 {α:Type} (xs:List α) (k:Nat):(List.replicate k xs).flatten.length=k*xs.length:=by
 induction k with
 | zero=>simp
 | succ k ih=>rw [List.replicate_succ,List.flatten_cons,qav,ih,Nat.succ_mul,Nat.add_comm]
end
section
variable {prog:Program} {w:World} {A:Around} {E:Value->Shared->Prop} {s:Shared}
end
section
variable {X:Cx}
end
end L2
namespace Att
open PySem PySem.W PySem.Calls PyProof.Rows
theorem zeD {P:Params} {h:Heap}: ∀ (ns:List Int) (vs:List Value),WellAll P h vs (ns.map WData.int)->IntsAre vs ns:=by
 intro ns
 induction ns with
 | nil=>
  intro vs w
  rw [List.map_nil] at w
  cases w
  exact .nil
 | cons n ns ih=>
  intro vs w
  rw [qaM] at w
  cases w with
  | cons a b=>
   cases a
   exact .cons _ _ (ih _ b)
theorem zjt {l:OpenLaw} {n:Nat} (hn:l.most=some n) {P:Params} {h:Heap} {args:List WData} {vals:List Value}
  (hpre:l.row.toRowW.claim.pre args=true) (hwl:WellAll P h vals args):
  ∃ a vs ns,vals=[Value.ref a]/\args=[WData.list (ns.map WData.int)]/\h.get? a=some {cls:= .type "list",data:= .seq vs.toArray}/\IntsAre vs ns/\ns.length<=n:=by
 have hsh:WShape.hasAll [] args [.list .int]=true:=(pre_splitW hpre).1
 have hc:l.pre.holds [] {args:=args}=true:=(pre_splitW hpre).2
 obtain ⟨d,r,rfl,h1,h2⟩:=hasAllW_cons hsh
 obtain rfl:=hasAllW_nil h2
 obtain ⟨xs,rfl,h3⟩:=hasW_list h1
 obtain ⟨ns,rfl⟩:=items_int h3
 have hlen:ns.length<=n:=by
  unfold OpenLaw.pre at hc
  have h4:(WTm.not (.lt (.lit (.int (n:Int))) (.len (.arg 0)))).holds [] {args:=[.list (ns.map .int)]}=true:=by
   have h4:=(holds_andW hc).1
   rw [hn] at h4
   exact h4
  have h5:=condW_of h4 (w_not (w_lt w_lit (w_len_list (w_arg rfl))))
  rw [qaH] at h5
  refine Nat.le_of_not_lt fun q=> ?_
  have q':(n:Int)<((ns.length:Nat):Int):=by omega
  first
   | (rw [decide_eq_true q'] at h5;exact absurd h5 (by decide))
   | (simp at h5;omega)
 cases hwl with
 | cons w1 w2=>
  cases w2
  cases w1 with
  | list ho hall=>exact ⟨_,_,ns,rfl,rfl,ho,zeD ns _ hall,hlen⟩
theorem ziU (l:OpenLaw) (args:List WData):l.row.toRowW.claim.post args (.bool true) args=true:=
 postW_of (r:=l.row.toRowW) (X:=(true==true))
  (show WShape.has [] (.bool true) .bool=true by first | rfl | decide | simp [WShape.has,WShape.arms,WShape.armsAll])
  (show (WTm.eq .res (.lit (.bool true))).value [] {args:=args,res:=some (.bool true),after:=args}=some (.bool (true==true)) from w_eq_bool (w_res rfl) w_lit) rfl
theorem zhb {l:OpenLaw} {n:Nat} {q:Program} {loose:List Str} {XP:(Str->Option Value)->Heap->Prop} {YP:World->Heap->Prop} {d:DefRec}
  (hn:l.most=some n) (hdf:d.params.defaults=[])
  (call: ∀ (w:World) (s₀ s₁:Shared) (mg mb:Str->Option Value) (fa:Addr) (o:Obj) (pm cd doc:Value) (a:Addr) (vs:List Value) (ns:List Int),
    Ground q loose [] XP w s₀ mg mb s₁.heap->YP w s₁.heap->
    s₁.heap.get? fa=some o->o.data= .func (docDef d.name d.params d.body d.scope pm cd doc)->s₁.heap.CodeRec cd d.name->mg d.name=some (.ref fa)->
    s₁.heap.get? a=some {cls:= .type "list",data:= .seq vs.toArray}->IntsAre vs ns->ns.length<=n->s₁.gens= #[]->
    codeAny (model l.prog w) callerA (.call (.ref fa) ⟨[.ref a],[]⟩) (fun r s'=>r= .ok (.ret (.bool true))/\OldK s₁.heap s'.heap/\s'.os=s₁.os/\AllBare s'.gens) s₁):
  WalkO q loose XP YP l.row.toRowW d [] (fun f vs=>PySem.call f vs):=by
 intro w s₀ s₁ mg mb G Y fa o pm cd doc dV kV ho hd hcd hD hmg hg args vals as hpre hlay hrd hwl hlo
 obtain rfl:dV= .none:=Dflts.none hD hdf
 obtain rfl:kV= .none:=Dflts.noKw hD
 obtain ⟨a,vs,ns,rfl,rfl,hobj,hints,hlen⟩:=zjt hn hpre hwl
 refine enter_call (codeAny_mono (call w s₀ s₁ mg mb fa o pm cd doc a vs ns G Y ho (fd_plain hd) hcd hmg hobj hints hlen hg) fun r s' hq=> ?_)
 obtain ⟨rfl,h2,h3,h4⟩:=hq
 exact ⟨.inl ⟨.bool true,.bool true,[],rfl,fun _=>rfl,.bool true,ziU l _,fun _=>⟨List.Pairwise.nil,fun _ hm=>(nomatch hm)⟩⟩,h2,h3,h4⟩
section
variable {prog:Program} {w:World} {A:Around} {E:Value->Shared->Prop} {s:Shared} {K:Frag}
end
end Att
namespace L2
open PySem PySem.Spec PyProof.Rows
theorem zey: ∀ {vs:List Value} {ns:List Int},IntsAre vs ns->zaM (ns.map V.int) vs
 | _,_,.nil=> .nil
 | _,_,.cons n t h=> .cons ⟨t,rfl⟩ (zey h)
def zr6 (H:Hp):Prop:= ∀ b,H b=none\/ ∃ o xs,H b=some (.frz o (.lst xs))
theorem zlx {P:Program} {w:World} {K:W.Frag} {mg mb:Str->Option Value} {CX:CXT} {k:Nat} {fa a:Addr} {fd:FuncData} {x:Str} {sp:Sp} {s₁:Shared} {vs:List Value} {ns:List Int}
  (KX:K.In s₁.heap) (hns:s₁.heap.Ns mainGlobals mg) (hb:s₁.heap.Ns builtinsNs mb) (hbb: ∀ x:Str,x≠"__name__"->mb x=bootBuiltins x) (hlim:s₁.heap.NoLimit) (hg:s₁.gens= #[])
  (ha:s₁.heap.get? a=some {cls:= .type "list",data:= .seq vs.toArray}) (hi:IntsAre vs ns) (hl:ns.length<=sizeLine) (hr:zcO k callerA)
  (F: ∀ base:Heap,K.In base->base.Ns mainGlobals mg->zbw P w K mg base CX k fa fd [x] sp) (hbind: ∀ (s:Shared) (u:Value),BindsTo s fd ⟨[u],[]⟩ [(x,u)])
  (hsp: ∀ H:Hp,zr6 H->SqL K H a (ns.map V.int)->sp [.ref a] H (fun v _=>v= .bl true) fun _ _ _=>False)
  (hCX: ∀ H e s',CX [] H s₁ (fun _ _ _=>False) e s'->False):
  codeAny (model P w) callerA (.call (.ref fa) ⟨[.ref a],[]⟩) (fun r s'=>r= .ok (.ret (.bool true))/\OldK s₁.heap s'.heap/\s'.os=s₁.os/\AllBare s'.gens) s₁:=by
 have rv:=zey hi
 have lenV:=hi.length
 have core: ∀ H:Hp,zr6 H->SqL K H a (ns.map V.int)->HOk P w H s₁.heap->(∀ b,H b≠none->b=a)->(H a≠none->K.lookup a=none)->
   codeAny (model P w) callerA (.call (.ref fa) ⟨[.ref a],[]⟩) (fun r s'=>r= .ok (.ret (.bool true))/\OldK s₁.heap s'.heap/\s'.os=s₁.os/\AllBare s'.gens) s₁:=by
  intro H hO hS hok hA hK
  have base_of: ∀ {b:Addr} {o:Obj},s₁.heap.get? b=some o->H b=none->(zlQ s₁.heap H).get? b=some o:=fun e n=>zk3 e n
  have noA: ∀ {b:Addr} {o:Obj} {es:Array DictEntry} {ep:Nat},s₁.heap.get? b=some o->o.data= .dict es ep->H b=none:=fun {b o es ep} e d=>by
   cases q:H b with
   | none=>rfl
   | some u=>
    have e':b=a:=hA b (by rw [q];simp)
    subst e'
    rw [ha] at e;cases e
    have d':Data.seq vs.toArray _=Data.dict es ep:=d
    cases d'
  have nsK: ∀ {b:Addr} {m:Str->Option Value},s₁.heap.Ns b m->(zlQ s₁.heap H).Ns b m:=fun {b m} ⟨o,es,ep,e,d,r⟩=>⟨o,es,ep,base_of e (noA e d),d,r⟩
  have hKb:K.In (zlQ s₁.heap H):=fun b o e=>base_of (KX b o e) (by
    cases q:H b with
    | none=>rfl
    | some u=>
      have e':b=a:=hA b (by rw [q];simp)
      subst e'
      rw [hK (by rw [q];simp)] at e;cases e)
  have hM:Mod K mg (zlQ s₁.heap H):=⟨hKb,nsK hns,⟨mb,nsK hb,hbb⟩,let ⟨mc,h1,h2⟩:=hlim;⟨mc,nsK h1,h2⟩⟩
  have e0:zld P w K mg (zlQ s₁.heap H) callerA [] s₁ H:=⟨rfl,hM,fun b o e=>zn3 e,Nat.le_of_eq (zky _ _),trivial,fun b hb=>absurd (show b∈([]:List Addr) from hb) (by simp),hok,.of_eq hg,.inl rfl⟩
  refine codeAny_mono ((F _ hKb (nsK hns)).run callerA [] s₁ H ⟨[.ref a],[]⟩ [.ref a] [.ref a] _ _ hr e0 (hbind s₁ (.ref a)) (.cons rfl .nil) (hsp H hO hS)) fun r s' h=> ?_
  cases r with
  | error e=>exact (hCX H e s' h).elim
  | ok fl=>
   cases fl with
   | next=>exact qa0 h
   | brk=>exact qa0 h
   | cont=>exact qa0 h
   | ret u=>
    obtain ⟨v,H',os,bare,un,hok',r',q⟩:=h
    have q':v= .bl true:=q
    subst q'
    obtain rfl:u=Value.bool true:=r'
    refine ⟨rfl,OldK.of_keep fun b o e=> ?_,os,bare⟩
    cases q:H b with
    | none=>exact un.keep b o e q (by intro z;exact absurd (show b∈([]:List Addr) from z) (by simp)) (by simp)
    | some u=>
     rcases hO b with z | ⟨ob,xs,z⟩
     ·rw [q] at z;cases z
     ·have z2:=un.frzs b ob _ z
      obtain ⟨e1,_⟩:=hok b _ z
      obtain ⟨e2,_⟩:=hok' b _ z2
      rw [e] at e1;cases e1
      exact e2
 cases hk:K.lookup a with
 | some o=>
  have e:=KX a o hk
  rw [ha] at e
  cases e
  refine core (fun _=>none) (fun _=> .inl rfl) (.inr ⟨_,vs.toArray,_,hk,rfl,rfl,rfl,by rw [qaA,lenV];exact hl,by simpa using rv⟩) (fun b u z=>by have z':(none:Option HO)=some u:=z;cases z') (fun b z=>absurd rfl z) fun z=>absurd rfl z
 | none=>
  refine core (fun b=>if b=a then some (.frz {cls:= .type "list",data:= .seq vs.toArray} (.lst (ns.map V.int))) else none) (fun b=> ?_) (.inl (.inr ⟨{cls:= .type "list",data:= .seq vs.toArray},qa4 rfl⟩)) (fun b u z=> ?_) (fun b z=> ?_) fun _=>hk
  ·by_cases hb:b=a
   ·exact .inr ⟨_,_,qa4 hb⟩
   ·exact .inl (qa5 hb)
  ·by_cases hb:b=a
   ·have z':=(qa4 hb).symm.trans z
    cases z'
    subst hb
    exact ⟨ha,by rw [qaH];exact hl,vs,_,rv,ha⟩
   ·have z':=(qa5 hb).symm.trans z
    cases z'
  ·by_cases hb:b=a
   ·exact hb
   ·exact absurd (qa5 hb) z
theorem zmN {l:W.OpenLaw} {n k:Nat} {q:Program} {loose:List Str} {XP:(Str->Option Value)->Heap->Prop} {YP:World->Heap->Prop} {d:DefRec} {K:Params->W.Frag} {CX:World->CXT} {sp:World->Sp} {x:Str}
  (hn:l.most=some n) (hn2:n<=sizeLine) (hdf:d.params.defaults=[]) (hr:zcO k callerA)
  (hY: ∀ (w:World) (h:Heap),YP w h->(K w.params).In h)
  (F: ∀ (w:World) (mg:Str->Option Value) (fa:Addr) (h:Heap),(K w.params).In h->h.Ns mainGlobals mg->mg d.name=some (.ref fa)->
    ∃ fd:FuncData,(∀ (s:Shared) (u:Value),BindsTo s fd ⟨[u],[]⟩ [(x,u)])/\
      ∀ base:Heap,(K w.params).In base->base.Ns mainGlobals mg->zbw l.prog w (K w.params) mg base (CX w) k fa fd [x] (sp w))
  (hsp: ∀ (w:World) (H:Hp) (a:Addr) (ns:List Int),ns.length<=n->zr6 H->SqL (K w.params) H a (ns.map V.int)->sp w [.ref a] H (fun v _=>v= .bl true) fun _ _ _=>False)
  (hCX: ∀ (w:World) (H:Hp) (s:Shared) (e:Value) (s':Shared),CX w [] H s (fun _ _ _=>False) e s'->False):
  W.WalkO q loose XP YP l.row.toRowW d [] (fun f vs=>PySem.call f vs):=by
 refine Att.zhb hn hdf fun w s₀ s₁ mg mb fa o pm cd doc a vs ns G Y ho hd hcd hmg hobj hints hlen hg=> ?_
 have KX:=hY w _ Y
 obtain ⟨fd,hb,hF⟩:=F w mg fa _ KX G.T.g hmg
 exact zlx KX G.T.g G.T.b G.T.builtins G.T.nolimit hg hobj hints (qaS hlen hn2) hr hF hb (fun H hO hS=>hsp w H a ns hlen hO hS) fun H e s'=>hCX w H s₁ e s'
noncomputable def zdz (s:Stmt):Arguments:=match s with
 | .FunctionDef _ a _ _ _ _ _ _ _ _=>a
 | _=>{posonlyargs:=[],args:=[],vararg:=none,kwonlyargs:=[],kw_defaults:=[],kwarg:=none,defaults:=[]}
noncomputable def zbS (s:Stmt):List Stmt:=match s with
 | .FunctionDef _ _ b _ _ _ _ _ _ _=>b
 | _=>[]
noncomputable def zae (s:Stmt):Scope:=match s with
 | .FunctionDef _ _ _ _ _ _ sc _ _ _=>sc
 | _=>{kind:= .function,names:=[],isGenerator:=false,isCoroutine:=false}
noncomputable abbrev CX0:CXT:=fun _ _ _ _ _ _=>False
noncomputable abbrev E0:XK:=fun _ _ _=>False
theorem zqk {X:Cx}:zdQ CX0 X E0:=fun _ _ _ _ _ _ _ h=>h.elim
structure Fun (K:W.Frag) (x qual:Str) (st:Stmt) (f:Addr) (fd:FuncData):Prop where
 ex: ∃ (oc:Value) (od:Option Addr) (kV doc pm:Value) (an:Option Addr) (cdv ct:Value) (osl:Array (Option Value)),
  fd=W.fnOf x qual (zdz st) (zbS st) (zae st) .none kV doc pm an cdv ct/\K.lookup f=some ⟨oc,od,.func fd,osl⟩/\W.codeIn K cdv qual=true
 kp:W.keepIn K (.ref f)=true
section
variable {P:Program} {w:World} {K:W.Frag} {mg:Str->Option Value} {base:Heap}
theorem Fun.ok {x qual:Str} {st:Stmt} {f:Addr} {fd:FuncData} {N ps:List Str} {k:Nat} {sp:Sp} (F:Fun K x qual st f fd) (S:zau N ps (zae st)) (len: ∀ vs H Q E,sp vs H Q E->vs.length=ps.length)
  (hbody: ∀ (cdv:Value) (A:Around) (outer:List Env) (s:Shared) (H:Hp) (vs:List V) (Q:VK) (E:XK),zcO k (A.deeper (envOfC qual (zae st) s.heap.objs.size f cdv))->sp vs H Q E->
    ∃ t,PSs (zg7 CX0 P w K mg base N qual (zae st) f cdv A outer s H E).nox (zbS st) t/\t {nx:=fun _ H'=>Q .non H',rt:=Q} (zdx N vs) H):zbw P w K mg base CX0 (k+1) f fd ps sp:=by
 obtain ⟨oc,od,kV,doc,pm,an,cdv,ct,osl,rfl,lk,hcd⟩:=F.ex
 refine zoK lk hcd S len fun A outer s H vs Q E hr hsp=> ?_
 obtain ⟨t,h,q⟩:=hbody cdv A outer s H vs Q E hr hsp
 exact ⟨t,h.nox,q⟩
theorem Fun.binds {x qual:Str} {st:Stmt} {f:Addr} {fd:FuncData} {ps:List Str} (F:Fun K x qual st f fd)
  (h: ∀ (kV doc pm:Value) (an:Option Addr) (cdv ct:Value) (us:List Value),us.length=ps.length->bindArgs (W.fnOf x qual (zdz st) (zbS st) (zae st) .none kV doc pm an cdv ct) ⟨us,[]⟩=pure (ps.zip us)):zaN K fd ps []:=by
 obtain ⟨oc,od,kV,doc,pm,an,cdv,ct,osl,rfl,lk,hcd⟩:=F.ex
 exact .all (h kV doc pm an cdv ct)
theorem zaV {x qual:Str} {st:Stmt} {f:Addr} {oc:Value} {od an:Option Addr} {osl:Array (Option Value)} {kV doc pm cdv ct:Value} (l:K.lookup f=some ⟨oc,od,.func (W.fnOf x qual (zdz st) (zbS st) (zae st) .none kV doc pm an cdv ct),osl⟩)
  (c:W.codeIn K cdv qual=true) (k:W.keepIn K (.ref f)=true):Fun K x qual st f (W.fnOf x qual (zdz st) (zbS st) (zae st) .none kV doc pm an cdv ct):=⟨⟨oc,od,kV,doc,pm,an,cdv,ct,osl,rfl,l,c⟩,k⟩
end
section
variable {X:Cx}
theorem pv (i:Nat) {x:Str} {pos:Pos} (hN:X.N[i]? = some x:=by rfl) (hv:Vis X.env.scope x:=by first | exact Or.inl rfl | exact Or.inr (Or.inl rfl) | exact Or.inr (Or.inr rfl)) (hd:(x==("__debug__":Str))=false:=by decide)
  (hcd:(x==("__classdict__":Str))=false:=by decide):PE X (.Name x pos) (zsl i):=zml hN hv hd hcd
end
theorem zqK {A B:Prop} (h:B):if false=true then A else B:=by
 rw [qa5 Bool.false_ne_true]
 exact h
theorem zqy {A B:Prop} (h:A):if true=true then A else B:=by
 rw [qa4 rfl]
 exact h
def zkO (H H':Hp):Prop:= ∀ b o,H b=some o->H' b=some o
theorem zkO.refl (H:Hp):zkO H H:=fun _ _ h=>h
theorem zkO.trans {H H1 H2:Hp} (a:zkO H H1) (b:zkO H1 H2):zkO H H2:=fun c o h=>b c o (a c o h)
theorem zkO.free {H H':Hp} (e:zkO H H') {l:Addr} (h:H' l=Option.none):H l=Option.none:=by
 cases q:H l with
 | none=>rfl
 | some o=>
  rw [e l o q] at h
  cases h
theorem zkO.seq {K:W.Frag} {H H':Hp} {a:Addr} {xs:List V} (e:zkO H H') (h:SqL K H a xs):SqL K H' a xs:=by
 rcases h with (h | ⟨o,h⟩) | h
 ·exact .inl (.inl (e _ _ h))
 ·exact .inl (.inr ⟨o,e _ _ h⟩)
 ·exact .inr h
noncomputable def za9 (cells:List (Str×Addr)):List (Str×NameKind)->List (Str×Addr)->List (Str×Addr)
 | [],acc=>acc
 | (n,k)::r,acc=>if k== .free then za9 cells r ((n,(cells.lookup n).getD 0)::acc) else za9 cells r acc
theorem zdk {scope:Scope} {env:Env} (h: ∀ x∈scope.names,x.2= .free-> ∃ c,env.cells.lookup x.1=some c):closureFor scope env=pure (za9 env.cells scope.names []):=by
 simp only [closureFor]
 generalize hn:scope.names=names at h
 clear hn
 generalize hacc:([]:List (Str×Addr))=acc
 clear hacc
 have key: ∀ (names:List (Str×NameKind)) (acc:List (Str×Addr)),(∀ x∈names,x.2= .free-> ∃ c,env.cells.lookup x.1=some c)->
   (forIn (m:=Sem) names acc fun (x:Str×NameKind) (r:List (Str×Addr))=>(match x with
     | (name,kind)=>if (kind==NameKind.free)=true then do
         let a<-cellOf env name
         pure (ForInStep.yield ((name,a)::r))
       else pure (ForInStep.yield r)))=pure (za9 env.cells names acc):=by
  intro names
  induction names with
  | nil=>intro acc _;rfl
  | cons x r ih=>
   intro acc h
   obtain ⟨n,k⟩:=x
   rw [List.forIn_cons]
   unfold za9
   by_cases hk:(k==NameKind.free)=true
   ·simp only [hk,if_true]
    obtain ⟨c,hc⟩:=h (n,k) qau (by simpa using hk)
    have e:cellOf env n=pure c:=by unfold cellOf;rw [show env.cells.lookup n=some c from hc]
    rw [e,show (env.cells.lookup n).getD 0=c by rw [show env.cells.lookup n=some c from hc];rfl]
    exact ih _ fun y hy=>h y (qan _ hy)
   ·simp only [hk,if_false]
    exact ih _ fun y hy=>h y (qan _ hy)
 have k:=key names acc h
 refine Eq.trans (congrArg (fun (z:Sem (List (Str×Addr)))=>z>>=fun r=>pure r) k) ?_
 rfl
theorem zdy {cells:List (Str×Addr)}: ∀ {names:List (Str×NameKind)} {acc:List (Str×Addr)} {n:Str} {c:Addr},(n,c)∈za9 cells names acc->
  (n,c)∈acc\/((n,NameKind.free)∈names/\c=(cells.lookup n).getD 0)
 | [],_,_,_,h=> .inl h
 | (y,k)::r,acc,n,c,h=>by
  unfold za9 at h
  by_cases hk:(k==NameKind.free)=true
  ·rw [qa4 hk] at h
   have ek:k= .free:=by simpa using hk
   subst ek
   rcases zdy h with h | ⟨h1,h2⟩
   ·rcases qaP.mp h with e | h
    ·cases e
     exact .inr ⟨qau,rfl⟩
    ·exact .inl h
   ·exact .inr ⟨qan _ h1,h2⟩
  ·rw [qa5 hk] at h
   rcases zdy h with h | ⟨h1,h2⟩
   ·exact .inl h
   ·exact .inr ⟨qan _ h1,h2⟩
theorem zc5 {cells:List (Str×Addr)} {x:Str} {c:Addr} (hc:cells.lookup x=some c): ∀ (names:List (Str×NameKind)) (acc:List (Str×Addr)),((x,NameKind.free)∈names\/acc.lookup x=some c)->(za9 cells names acc).lookup x=some c
 | [],acc,h=>h.elim (fun z=>nomatch z) id
 | (y,k)::r,acc,h=>by
  unfold za9
  by_cases hk:(k==NameKind.free)=true
  ·rw [qa4 hk]
   refine zc5 hc r _ ?_
   by_cases hy:x=y
   ·subst hy
    exact .inr (by rw [List.lookup_cons,beq_self_eq_true,hc];rfl)
   ·rcases h with h | h
    ·rcases qaP.mp h with e | h
     ·cases e;exact absurd rfl hy
     ·exact .inl h
    ·refine .inr ?_
     rw [List.lookup_cons,show (x==y)=false by simpa using hy]
     exact h
  ·rw [qa5 hk]
   refine zc5 hc r _ ?_
   rcases h with h | h
   ·rcases qaP.mp h with e | h
    ·cases e;exact absurd rfl hk
    ·exact .inl h
   ·exact .inr h
theorem zck: ∀ {names:List (Str×NameKind)} {n:Nat} {acc:List (Str×Addr)} {x:Str} {c:Addr},(x,c)∈cellsFrom n names acc->(x,c)∈acc\/(n<=c/\(x,NameKind.cell)∈names)
 | [],_,_,_,_,h=> .inl h
 | (y,k)::r,n,acc,x,c,h=>by
  unfold cellsFrom at h
  by_cases hk:(k==NameKind.cell)=true
  ·rw [qa4 hk] at h
   have ek:k= .cell:=by simpa using hk
   subst ek
   rcases zck h with h | ⟨h,h'⟩
   ·rcases qaP.mp h with e | h
    ·cases e;exact .inr ⟨qaV _,qau⟩
    ·exact .inl h
   ·exact .inr ⟨Nat.le_of_succ_le h,qan _ h'⟩
  ·rw [qa5 hk] at h
   rcases zck h with h | ⟨h,h'⟩
   ·exact .inl h
   ·exact .inr ⟨h,qan _ h'⟩
theorem zbB {x:Str} {c:Addr}: ∀ (names:List (Str×NameKind)) (n:Nat) (acc:List (Str×Addr)),(x,NameKind.cell)∉names->acc.lookup x=some c->(cellsFrom n names acc).lookup x=some c
 | [],_,_,_,h=>h
 | (y,k)::r,n,acc,hn,h=>by
  unfold cellsFrom
  by_cases hk:(k==NameKind.cell)=true
  ·rw [qa4 hk]
   have ek:k= .cell:=by simpa using hk
   subst ek
   refine zbB r _ _ (fun z=>hn (qan _ z)) ?_
   have hy:x≠y:=fun e=>hn (by rw [e];exact qau)
   rw [List.lookup_cons,show (x==y)=false by simpa using hy]
   exact h
  ·rw [qa5 hk]
   exact zbB r _ _ (fun z=>hn (qan _ z)) h
theorem zbz: ∀ (names:List (Str×NameKind)) (n:Nat) (acc:List (Str×Addr)),(∀ x c,(x,c)∈acc->c<n)->(acc.Pairwise fun x y=>x.2≠y.2)->(cellsFrom n names acc).Pairwise fun x y=>x.2≠y.2
 | [],_,_,_,h=>h
 | (y,k)::r,n,acc,hlt,h=>by
  unfold cellsFrom
  by_cases hk:(k==NameKind.cell)=true
  ·rw [qa4 hk]
   refine zbz r (n+1) _ (fun x c hm=> ?_) (qay.mpr ⟨fun z hz e=> ?_,h⟩)
   ·rcases qaP.mp hm with e | hm
    ·cases e;exact Nat.lt_succ_self _
    ·exact Nat.lt_succ_of_lt (hlt x c hm)
   ·have:=hlt z.1 z.2 hz
    have e':n=z.2:=e
    exact qaN _ (e'▸this)
  ·rw [qa5 hk]
   exact zbz r n acc hlt h
noncomputable def znh (env:Env) (scope:Scope) (C:Addr):Env:=
 {scope:=relabel scope env,locals:=C,globals:=env.globals,cells:=cellsFrom (C+1) scope.names (za9 env.cells scope.names []),qual:=env.qual,func:=none,code:=env.code,frame:=env.frame,builtins:=env.builtins}
section
variable {M:Model} {A:Around} {E:Value->Shared->Prop} {s:Shared}
theorem zeU {scope:Scope} {env:Env} {cl:List (Str×Addr)} {Q:Env->Shared->Prop}
  (hQ: ∀ h',(∀ b o,s.heap.get? b=some o->h'.get? b=some o)->h'.Ns s.heap.objs.size (fun _=>none)->(∀ x c,(x,NameKind.cell)∈scope.names->(x,c)∈cellsFrom (s.heap.objs.size+1) scope.names cl->(x,c)∉cl->h'.IsCell c none)->
    Q {scope,locals:=s.heap.objs.size,globals:=env.globals,cells:=cellsFrom (s.heap.objs.size+1) scope.names cl,qual:=env.qual,func:=none,code:=env.code,frame:=env.frame,builtins:=env.builtins} {s with heap:=h'}):
  wpAny M A (newFunctionEnv scope env.globals cl [] env.qual none .none (some env)) Q E s:=by
 simp only [newFunctionEnv,Option.isSome_some,if_true]
 refine qaW (wpAny_alloc ?_)
 refine qaW (wpAny_layCells _ (fun name kind cells=>by cases hkc:kind==NameKind.cell<;>simp [hkc]) _ _ _ _ ?_)
 simp only [List.forIn_nil]
 refine qaW (qaX (qaX ?_))
 rw [show ({s with heap:=s.heap.push {cls:= .type "dict",data:= .dict #[]}}:Shared).heap.objs.size=s.heap.objs.size+1 from qaL ..]
 have key: ∀ (names:List (Str×NameKind)) (h:Heap) (acc:List (Str×Addr)) (x:Str) (c:Addr),(x,c)∈cellsFrom h.objs.size names acc->(x,c)∉acc->(pushCells h names).IsCell c none:=by
  intro names
  induction names with
  | nil=>intro h acc x c hm hn;exact absurd hm hn
  | cons y r ih=>
   intro h acc x c hm hn
   obtain ⟨n,k⟩:=y
   unfold cellsFrom at hm
   unfold pushCells
   by_cases hk:(k==NameKind.cell)=true
   ·rw [qa4 hk] at hm ⊢
    by_cases hin:(x,c)∈((n,h.objs.size)::acc)
    ·rcases qaP.mp hin with e | e
     ·cases e
      exact ⟨_,pushCells_keeps _ _ _ _ (qar _ rfl),rfl⟩
     ·exact absurd e hn
    ·refine ih (h.push {cls:= .type "cell",data:= .cell none}) ((n,h.objs.size)::acc) x c ?_ hin
     rw [qaL]
     exact hm
   ·rw [qa5 hk] at hm ⊢
    exact ih h acc x c hm hn
 refine hQ _ (fun b o e=>pushCells_keeps _ _ b o (qag _ e)) ((Heap.Ns.new s.heap (.type "dict")).keeps (pushCells_keeps _ _)) fun x c _ hm hn=> ?_
 refine key scope.names _ cl x c ?_ hn
 rw [qaL]
 exact hm
end
section
variable {prog:Program} {w:World} {A:Around} {E:Value->Shared->Prop} {R:Result->Shared->Prop} {s:Shared}
theorem zgy {elt target iter:Expr} {ifs:List Expr} {scope:Scope} {pos:Pos} {it acc:Value} {env:Env} (I:Nat->Shared->Prop)
  (turn: ∀ n s,I n s->wpAny (model prog w) A (pyNext it) (fun r s₁=>match r with
    | none=>R (.ok .next) s₁
    | some v=>wpAny (model prog w) A (letOwnedTupleGo target it v) (fun _ s₁'=>wpAny (model prog w) A (assign target env v) (fun _ s₂=>
        wpAny (model prog w) A (forIn ifs true fun c r=>if r=true then do let ok<-isTrue c env (eval c env);pure (ForInStep.yield ok) else pure (ForInStep.yield r)) (fun ok s₃=>
          if ok=true then wpAny (model prog w) A (eval elt env) (fun x s₄=>
            wpAny (model prog w) A (call (.builtin "list.append") [acc,x]) (fun _ s₅=> ∃ m,m<n/\I m s₅) (fun _ _=>False) s₄) (fun _ _=>False) s₃
          else ∃ m,m<n/\I m s₃) (fun _ _=>False) s₂) (fun _ _=>False) s₁') (fun _ _=>False) s₁) (fun _ _=>False) s)
  (n:Nat) (h:I n s):
  codeAny (model prog w) A (.compLoop (.ListComp elt [⟨target,iter,ifs,0⟩] scope pos) 0 it acc env) R s:=by
 refine codeAny_loop rfl I (fun n s hI=> ?_) n h
 show wpAny _ A ((compTurn (.ListComp elt [⟨target,iter,ifs,0⟩] scope pos) 0 it acc env).onRaise (fun x=>do noteFrame x env;theTreesLotGoes x)) _ _ s
 refine wpAny_noted ?_
 rw [compTurn_list]
 refine qaW (wpAny_standAt (qaW (qaZ (turn n s hI) (fun r s₁ h₁=> ?_) fun _ _ h'=>h'.elim)))
 cases r with
 | none=>exact qaX h₁
 | some v=>
  refine qaW (qaZ h₁ (fun _ s₁' h₁'=> ?_) fun _ _ h'=>h'.elim)
  refine qaW (qaZ h₁' (fun _ s₂ h₂=>qaW (qaZ h₂ (fun ok s₃ h₃=> ?_) fun _ _ h'=>h'.elim)) fun _ _ h'=>h'.elim)
  cases ok with
  | false=>exact qaX ⟨rfl,h₃⟩
  | true=>
   exact qaW (qaW (qaZ h₃ (fun x s₄ h₄=>qaW (qaZ h₄ (fun _ s₅ h₅=>qaX (qaX ⟨rfl,h₅⟩)) fun _ _ h'=>h'.elim)) fun _ _ h'=>h'.elim))
end
noncomputable abbrev cxB (X:Cx) (scope:Scope) (N:List Str) (s:Shared) (H:Hp) (fp:List Addr):Cx:=
 {prog:=X.prog,w:=X.w,K:=X.K,mg:=X.mg,base:=X.base,A:=X.A,N:=N,s₀:=s,H₀:=H,env:=znh X.env scope s.heap.objs.size,outer:=X.stack,stack:=X.stack,ex:=fp,
   fn:=fun x=>scope.names.lookup x==some .cell,calm:=X.calm,pn:=[],xe:=fun _ _=>False}
noncomputable def zmz (Xn:List (Str×NameKind)) (XN:List Str) (names:List (Str×NameKind)) (N:List Str) (src:List (Option Nat)):Bool:=
 decide N.Nodup && decide (names.map (·.1)).Nodup && (src.length==N.length) &&
 names.all (fun x=>x.2 != .local || names.lookup x.1==some .local) &&
 names.all (fun x=>x.2 != .cell || names.lookup x.1==some .cell) &&
 names.all (fun x=>x.2 != .free || Xn.lookup x.1==some .cell || Xn.lookup x.1==some .free) &&
 (N.zip src).all (fun p=>match p.2 with
   | none=>true
   | some i=>XN[i]? == some p.1 && names.lookup p.1==some .free)
structure BOk (X:Cx) (scope:Scope) (N:List Str) (src:List (Option Nat)):Prop where
 kind:scope.kind= .function
 nd:N.Nodup
 keys:(scope.names.map (·.1)).Nodup
 len:src.length=N.length
 locs: ∀ x∈scope.names,x.2= .local->scope.names.lookup x.1=some .local
 cels: ∀ x∈scope.names,x.2= .cell->scope.names.lookup x.1=some .cell
 free: ∀ x∈scope.names,x.2= .free->X.env.kindOf x.1=some .cell\/X.env.kindOf x.1=some .free
 src: ∀ (k i:Nat) (x:Str),src[k]? = some (some i)->N[k]? = some x->X.N[i]? = some x/\scope.names.lookup x=some .free
theorem BOk.of {X:Cx} {scope:Scope} {N:List Str} {src:List (Option Nat)} {Xn:List (Str×NameKind)} {XN:List Str} (hk:scope.kind= .function) (hX:X.env.scope.names=Xn) (hN:X.N=XN)
  (h:zmz Xn XN scope.names N src=true):BOk X scope N src:=by
 unfold zmz at h
 simp only [qaG,qaD,List.all_eq_true,beq_iff_eq] at h
 obtain ⟨⟨⟨⟨⟨⟨h1,h2⟩,h3⟩,h4⟩,h4'⟩,h5⟩,h6⟩:=h
 refine ⟨hk,h1,h2,h3,fun x hx e=> ?_,fun x hx e=> ?_,fun x hx e=> ?_,fun k i x e1 e2=> ?_⟩
 ·have:=h4 x hx
  rw [e] at this
  simpa using this
 ·have:=h4' x hx
  rw [e] at this
  simpa using this
 ·have:=h5 x hx
  rw [e] at this
  unfold Env.kindOf
  rw [hX]
  simpa using this
 ·have hm:(x,some i)∈N.zip src:=by
   refine List.mem_iff_getElem?.mpr ⟨k,?_⟩
   rw [List.getElem?_zip_eq_some]
   exact ⟨e2,e1⟩
  have:=h6 _ hm
  dsimp only at this
  simp only [qaG,beq_iff_eq] at this
  rw [hN]
  exact this
noncomputable def bStart (src:List (Option Nat)) (σ:St):St:=src.map fun o=>o.bind fun i=>(σ[i]?).join
theorem zeM {scope:Scope} {env:Env} {x:Str}:(relabel scope env).names.lookup x=(scope.names.lookup x).map fun k=>if (k== .free && env.scope.kind== .function && env.kindOf x==some .cell) then .cell else k:=by
 show List.lookup x (scope.names.map _)=_
 induction scope.names with
 | nil=>rfl
 | cons y r ih=>
  obtain ⟨n,k⟩:=y
  rw [qaM]
  dsimp only
  by_cases hx:x=n
  ·subst hx
   by_cases hc:(k==NameKind.free && env.scope.kind== .function && env.kindOf x==some .cell)=true
   ·rw [qa4 hc,List.lookup_cons,List.lookup_cons,beq_self_eq_true]
    dsimp only [Option.map]
    rw [qa4 hc]
   ·rw [qa5 hc,List.lookup_cons,List.lookup_cons,beq_self_eq_true]
    dsimp only [Option.map]
    rw [qa5 hc]
  ·have hb:(x==n)=false:=by simpa using hx
   by_cases hc:(k==NameKind.free && env.scope.kind== .function && env.kindOf n==some .cell)=true
   ·rw [qa4 hc,List.lookup_cons,List.lookup_cons,hb]
    exact ih
   ·rw [qa5 hc,List.lookup_cons,List.lookup_cons,hb]
    exact ih
section
variable {X:Cx} {pins:List (Addr×Obj)} {σ:St} {H:Hp} {s:Shared} {scope:Scope} {N:List Str} {src:List (Option Nat)} {fp:List Addr}
theorem zok (I:Inv X pins σ H s) (B:BOk X scope N src) {x:Str} {c:Addr} (h:(x,c)∈za9 X.env.cells scope.names []):X.env.cells.lookup x=some c/\(x,NameKind.free)∈scope.names:=by
 rcases zdy h with z | ⟨z,e⟩
 ·exact nomatch z
 ·obtain ⟨c',hc⟩:=I.ok.has x (B.free _ z rfl)
  rw [hc] at e
  exact ⟨by rw [hc,e];rfl,z⟩
theorem zf1 {l:List (Str×NameKind)} (h:(l.map (·.1)).Nodup) {x:Str} {j k:NameKind} (a:(x,j)∈l) (b:(x,k)∈l):j=k:=by
 induction l with
 | nil=>exact nomatch a
 | cons y r ih=>
  obtain ⟨h1,h2⟩:=List.nodup_cons.mp (show (y.1::r.map (·.1)).Nodup from h)
  rcases qaP.mp a with e | a<;>rcases qaP.mp b with e' | b
  ·rw [<- e] at e';cases e';rfl
  ·exact absurd (qaU.mpr ⟨_,b,by rw [<- e]⟩) h1
  ·exact absurd (qaU.mpr ⟨_,a,by rw [<- e']⟩) h1
  ·exact ih h2 a b
theorem zdL (I:Inv X pins σ H s): ∀ (names:List (Str×NameKind)) (acc:List (Str×Addr)),(∀ x∈names,x.2= .free-> ∃ c,X.env.cells.lookup x.1=some c)->(names.map (·.1)).Nodup->(∀ x c,(x,c)∈acc->X.env.cells.lookup x=some c/\x∉names.map (·.1))->
  (acc.Pairwise fun x y=>x.2≠y.2)->(za9 X.env.cells names acc).Pairwise fun x y=>x.2≠y.2
 | [],_,_,_,_,h=>h
 | (n,k)::r,acc,hf,nd,ha,h=>by
  unfold za9
  obtain ⟨h1,h2⟩:=List.nodup_cons.mp (show (n::r.map (·.1)).Nodup from nd)
  by_cases hk:(k==NameKind.free)=true
  ·rw [qa4 hk]
   obtain ⟨c,hc⟩:=hf (n,k) qau (by simpa using hk)
   have hc:X.env.cells.lookup n=some c:=hc
   rw [show (X.env.cells.lookup n).getD 0=c by rw [hc];rfl]
   refine zdL I r _ (fun x hx=>hf x (qan _ hx)) h2 (fun x c' hm=> ?_) (qay.mpr ⟨fun y hy e=> ?_,h⟩)
   ·rcases qaP.mp hm with e | hm
    ·cases e;exact ⟨hc,h1⟩
    ·exact ⟨(ha x c' hm).1,fun z=>(ha x c' hm).2 (qan _ z)⟩
   ·obtain ⟨q1,q2⟩:=ha y.1 y.2 hy
    have e':c=y.2:=e
    rw [<- e'] at q1
    have:=I.ok.inj _ _ _ hc q1
    exact q2 (by rw [<- this];exact qau)
  ·rw [qa5 hk]
   exact zdL I r acc (fun x hx=>hf x (qan _ hx)) h2 (fun x c' hm=>⟨(ha x c' hm).1,fun z=>(ha x c' hm).2 (qan _ z)⟩) h
theorem zkB (I:Inv X pins σ H s) (B:BOk X scope N src) (hf: ∀ b∈fp,zhG X pins H b) (hfo: ∀ b∈fp, ∃ o,s.heap.get? b=some o) {h':Heap} (hk: ∀ b o,s.heap.get? b=some o->h'.get? b=some o) (hns:h'.Ns s.heap.objs.size (fun _=>none))
  (hce: ∀ x c,(x,NameKind.cell)∈scope.names->(x,c)∈cellsFrom (s.heap.objs.size+1) scope.names (za9 X.env.cells scope.names [])->(x,c)∉za9 X.env.cells scope.names []->h'.IsCell c none):
  Inv (cxB X scope N s H fp) [] (bStart src σ) H {s with heap:=h'}:=by
 have cin: ∀ {x:Str} {c:Addr},(x,c)∈za9 X.env.cells scope.names []->X.env.cells.lookup x=some c/\(x,NameKind.free)∈scope.names:=fun h=>zok I B h
 have old: ∀ {x:Str} {c:Addr},X.env.cells.lookup x=some c->c<s.heap.objs.size:=fun {x c} h=>(let ⟨_,q⟩:=I.cell x c h;q.lt)
 have all: ∀ {x:Str} {c:Addr},(x,c)∈cellsFrom (s.heap.objs.size+1) scope.names (za9 X.env.cells scope.names [])->(X.env.cells.lookup x=some c/\(x,NameKind.free)∈scope.names)\/(s.heap.objs.size<c/\(x,NameKind.cell)∈scope.names):=fun {x c} h=>by
  rcases zck h with z | ⟨z,z'⟩
  ·exact .inl (cin z)
  ·exact .inr ⟨z,z'⟩
 have lk: ∀ {x:Str} {c:Addr},(znh X.env scope s.heap.objs.size).cells.lookup x=some c->(x,c)∈cellsFrom (s.heap.objs.size+1) scope.names (za9 X.env.cells scope.names []):=fun h=>PySem.mem_of_lookup h
 have hasF: ∀ x∈scope.names,x.2= .free-> ∃ c,X.env.cells.lookup x.1=some c:=fun x hx e=>I.ok.has x.1 (B.free x hx e)
 have ap:(cellsFrom (s.heap.objs.size+1) scope.names (za9 X.env.cells scope.names [])).Pairwise fun x y=>x.2≠y.2:=
  zbz _ _ _ (fun x c hm=>Nat.lt_succ_of_lt (old (cin hm).1)) (zdL I scope.names [] hasF B.keys (fun _ _ z=>nomatch z) .nil)
 have outer: ∀ {x:Str} {c:Addr},(x,NameKind.free)∈scope.names->X.env.cells.lookup x=some c->(znh X.env scope s.heap.objs.size).cells.lookup x=some c:=fun {x c} h1 h2=>
  zbB _ _ _ (fun z=>nomatch zf1 B.keys h1 z) (zc5 h2 scope.names [] (.inl h1))
 have kinds: ∀ x,(znh X.env scope s.heap.objs.size).kindOf x=(scope.names.lookup x).map fun k=>if (k== .free && X.env.scope.kind== .function && X.env.kindOf x==some .cell) then .cell else k:=fun x=>zeM
 have ckind: ∀ x,((znh X.env scope s.heap.objs.size).kindOf x=some .cell\/(znh X.env scope s.heap.objs.size).kindOf x=some .free)->scope.names.lookup x=some .cell\/scope.names.lookup x=some .free:=fun x h=>by
  rw [kinds x] at h
  cases e:scope.names.lookup x with
  | none=>rw [e] at h;simp at h
  | some k=>
   rw [e] at h
   cases k<;>simp at h ⊢
 refine ⟨⟨I.ok.mod,B.kind,I.ok.glob,I.ok.blt,qaV _,fun x y c h1 h2=>name_of_addr ap (lk h1) (lk h2),fun x hx=> ?_,fun x c hfn hx=> ?_,I.ok.hd,I.handA,I.ok.frames,.inl rfl,fun b hb=> ?_,I.bs,qaS I.ok.bsz I.sz,fun b o e hb=> ?_,fun b hb hb'=> ?_,I.stack,I.stkFree⟩,
   rfl,I.bare,Un.kept hk,⟨_,hns,fun i x v h1 h2 h3=> ?_⟩,fun x c h=> ?_,I.hok.fresh (qaV _),fun x c h=> ?_,fun p hp=>absurd (show p∈([]:List (Addr×Obj)) from hp) (by simp),I.hok.kept hk,?_⟩
 ·-- has
  rcases ckind x hx with h | h
  ·exact Option.isSome_iff_exists.mp (W.cellsFrom_some scope.names _ _ (.inl h))
  ·have hm:=PySem.mem_of_lookup h
   obtain ⟨c,hc⟩:=hasF _ hm rfl
   exact ⟨c,outer hm hc⟩
 ·-- cab
  have hfn:scope.names.lookup x=some .cell:=by simpa using hfn
  rcases all (lk hx) with ⟨_,z⟩ | ⟨z,_⟩
  ·exact absurd (zf1 B.keys z (PySem.mem_of_lookup hfn)) (by decide)
  ·exact Nat.le_of_lt z
 ·-- exf
  obtain ⟨o,ho⟩:=hfo b hb
  refine ⟨qaR (qaQ ho),fun x c hx z=> ?_⟩
  rcases all (lk hx) with ⟨q,_⟩ | ⟨q,_⟩
  ·exact (hf b hb).2.2.2.2.1 x c q z
  ·have:=qaQ ho
   rw [<- z] at this
   exact qaN _ (Nat.lt_trans q this)
 ·-- noex
  rcases (hf b hb).2.2.2.1 with z | z
  ·exact I.ok.noex b o e z
  ·exact qaN _ (qaw (qaw (qaQ e) I.ok.bsz) z)
 ·-- exfs
  rcases qaP.mp (I.stkSub b hb') with z | z
  ·exact (hf b hb).2.1 z
  ·exact (hf b hb).2.2.1 z
 ·-- loc
  unfold bStart at h2
  rw [List.getElem?_map] at h2
  cases e:src[i]? with
  | none=>rw [e] at h2;cases h2
  | some o=>
   rw [e] at h2
   cases o with
   | none=>cases h2
   | some j=>
    have h2:(σ[j]?).join=some v:=by simpa using h2
    have e3:σ[j]? = some (some v):=by
     cases q:σ[j]? with
     | none=>rw [q] at h2;cases h2
     | some z=>rw [q] at h2;simp at h2;rw [h2]
    obtain ⟨b1,b2⟩:=B.src i j x e h1
    have hm:=PySem.mem_of_lookup b2
    obtain ⟨m,hn,hl⟩:=I.loc
    have hfr:=B.free _ hm rfl
    obtain ⟨u,r,l⟩:=hl j x v b1 e3 (.inr hfr)
    rcases l with ⟨k,_⟩ | ⟨k,c,hc,q⟩
    ·rcases hfr with z | z<;>(have z':=k.symm.trans z;cases z')
    ·refine ⟨u,r,.inr ⟨?_,c,outer hm hc,q.keeps hk⟩⟩
     rw [kinds x,b2]
     dsimp only [Option.map]
     split
     ·exact .inl rfl
     ·exact .inr rfl
 ·-- cell
  rcases all (lk h) with ⟨q,_⟩ | ⟨q,q'⟩
  ·obtain ⟨v,z⟩:=I.cell x c q
   exact ⟨v,z.keeps hk⟩
  ·exact ⟨none,hce x c q' (lk h) fun z=>absurd (Nat.lt_trans q (old (cin z).1)) (qaN _)⟩
 ·-- freeC
  rcases all (lk h) with ⟨q,_⟩ | ⟨q,q'⟩
  ·exact I.freeC x c q
  ·exact I.hok.fresh (Nat.le_of_lt q)
 ·unfold bStart
  rw [qaH]
  exact B.len
end
def PCs (X:Cx) (ifs:List Expr) (t:TT):Prop:=
 ∀ (pins:List (Addr×Obj)) (s:Shared) (σ:St) (H:Hp) (Q:Bool->Hp->Prop),Inv X pins σ H s->t σ H Q->
  wpAny (model X.prog X.w) X.A (forIn ifs true fun c r=>if r=true then do let ok<-isTrue c X.env (eval c X.env);pure (ForInStep.yield ok) else pure (ForInStep.yield r)) (TP X pins σ Q) X.xe s
noncomputable def zst:TT:=fun _ H Q=>Q true H
theorem zne {X:Cx}:PCs X [] zst:=fun pins s σ H Q I h=>wpAny_tests_nil ⟨H,I,h⟩
theorem znP {X:Cx} {c:Expr} {t:TT} (h:PT X c t):PCs X [c] t:=fun pins s σ H Q I hw=>wpAny_tests_one (h pins s σ H Q I hw)
def zqY (J:It) (g:TG) (tc:TT) (te:TE) (σ0:St) (H1:Hp) (D:Addr) (Q:Hp->Prop):Prop:=
 ∃ W:Nat->Nat->St->Hp->Prop,(∃ m,W 0 m σ0 (upd H1 D (.lst [])))/\ ∀ i m σ' H',W i m σ' H'->
  (J.stop i H'/\Q H')\/(J.go i H'/\ ∃ Nn:St->Hp->Prop,(∀ σ2 H2,Nn σ2 H2-> ∃ m',m'<m/\W (i+1) m' σ2 H2)/\ ∀ x H2,J.yld i H' x H2->g x σ' H2 fun σ2 H3=>tc σ2 H3 fun b H4=>
    if b=true then te σ2 H4 fun y H5=> ∃ xs,H5 D=some (.lst xs)/\xs.length<sizeLine/\Nn σ2 (upd H5 D (.lst (xs++[y]))) else Nn σ2 H4)
section
variable {X:Cx} {scope:Scope} {N:List Str} {src:List (Option Nat)} {tg iter elt:Expr} {ifs:List Expr} {pos:Pos}
theorem zhO {pins:List (Addr×Obj)} {σ:St} {H:Hp} {s₂:Shared} {it:Addr} {fp:List Addr} {tn:Nat->Heap->Prop} {J:It} {g:TG} {tc:TT} {te:TE} {Q:Addr->Hp->Prop} {E:Value->Shared->Prop} {RR:Value->Addr->Result->Shared->Prop}
  (B:BOk X scope N src)
  (hg: ∀ s H fp,PG (cxB X scope N s H fp) tg g) (ht: ∀ s H fp,PCs (cxB X scope N s H fp) ifs tc) (he: ∀ s H fp,PE (cxB X scope N s H fp) elt te)
  (I2:Inv X pins σ H s₂) (T:zow X.prog X.w X.K tg J fp it tn) (st2:tn 0 s₂.heap) (f2: ∀ b∈fp,zhG X pins H b) (hw: ∀ D,H D=none->zqY J g tc te (bStart src σ) H D (Q D))
  (hRR: ∀ D C H' s' m,Inv X pins σ H' s'->s'.heap.Ns C m->s₂.heap.objs.size<=C->C<s'.heap.objs.size->H' C=none->Q D H'->RR (.ref D) C (.ok .next) s'):
  wpAny (model X.prog X.w) X.A (newList []) (fun acc s₃=>wpAny (model X.prog X.w) X.A (newFunctionEnv scope X.env.globals (za9 X.env.cells scope.names []) [] X.env.qual none .none (some X.env)) (fun cenv s₄=>
    codeAny (model X.prog X.w) X.A (.compStart (.ListComp elt [⟨tg,iter,ifs,0⟩] scope pos) 0 (.ref it) acc {cenv with scope:=relabel scope X.env}) (RR acc cenv.locals) s₄) E s₃) E s₂:=by
 refine qaC (zeU fun h₁ hk₁ hns₁ hce₁=> ?_)
 dsimp only at hk₁ hns₁ hce₁ ⊢
 have hfresh:H s₂.heap.objs.size=none:=I2.hok.fresh (qaV _)
 have I3:Inv X pins σ (upd H s₂.heap.objs.size (.lst [])) {s₂ with heap:=s₂.heap.push {cls:= .type "list",dict:=none,data:= .seq ([]:List Value).toArray}}:=by
  have:=I2.lnew (its:=[]) (ys:=[]) (t':=s₂.toks) .nil (Nat.zero_le _)
  exact this
 obtain ⟨W,⟨m0,w0⟩,turn⟩:=hw _ hfresh
 generalize hD:s₂.heap.objs.size=D at*
 generalize hs3:({s₂ with heap:=s₂.heap.push {cls:= .type "list",dict:=none,data:= .seq ([]:List Value).toArray}}:Shared)=s₃ at*
 have hh3:s₂.heap.push {cls:= .type "list",dict:=none,data:= .seq ([]:List Value).toArray}=s₃.heap:=by rw [<- hs3]
 rw [hh3] at hk₁ hns₁ hce₁ ⊢
 have push3: ∀ b o,s₂.heap.get? b=some o->s₃.heap.get? b=some o:=fun b o e=>by rw [<- hs3];exact qag _ e
 have sz3:s₃.heap.objs.size=D+1:=by rw [<- hs3, <-hD];exact qaL ..
 have fpo: ∀ b∈fp, ∃ o,s₂.heap.get? b=some o/\ ∀ v,o.data≠ .cell v:=T.obj _ _ st2
 have fpD: ∀ b∈fp,b≠D:=fun b hb z=>by
  obtain ⟨o,e,_⟩:=fpo b hb
  have:=qaQ e
  rw [z, <-hD] at this
  exact qaN _ this
 have f3: ∀ b∈fp,zhG X pins (upd H D (.lst [])) b:=fun b hb=>⟨by rw [zas (fpD b hb)];exact (f2 b hb).1,(f2 b hb).2⟩
 have I4:Inv (cxB X scope N s₃ (upd H D (.lst [])) fp) [] (bStart src σ) (upd H D (.lst [])) {s₃ with heap:=h₁}:=
  zkB I3 B f3 (fun b hb=>let ⟨o,e,_⟩:=fpo b hb;⟨o,push3 b o e⟩) hk₁ hns₁ hce₁
 have fB: ∀ {H':Hp},(∀ b∈fp,H' b=none)-> ∀ b∈fp,zhG (cxB X scope N s₃ (upd H D (.lst [])) fp) [] H' b:=fun {H'} hn b hb=>
  ⟨hn b hb,(I4.ok.exf b hb).1,I4.ok.exfs b hb,.inl hb,fun x c e=>(I4.ok.exf b hb).2 x c e,fun p hp=>absurd (show p∈([]:List (Addr×Obj)) from hp) (by simp)⟩
 have stat4: ∀ s',s'=({s₃ with heap:=h₁}:Shared)->codeAny (model X.prog X.w) X.A (.compLoop (.ListComp elt [⟨tg,iter,ifs,0⟩] scope pos) 0 (.ref it) (.ref D) (znh X.env scope s₃.heap.objs.size)) (RR (.ref D) s₃.heap.objs.size) s':=by
  intro s' es
  refine zgy (fun n s'=> ∃ i σ' H',Inv (cxB X scope N s₃ (upd H D (.lst [])) fp) [] σ' H' s'/\tn i s'.heap/\(∀ b∈fp,H' b=none)/\W i n σ' H') ?_ m0 ⟨0,_,_,by rw [es];exact I4,by rw [es];exact T.keep _ _ _ st2 fun b hb o e=>hk₁ b o (push3 b o e),fun b hb=>(f3 b hb).1,w0⟩
  rintro n s5 ⟨i,σ5,H5,I5,st5,fr5,w5⟩
  rcases turn i n σ5 H5 w5 with ⟨stop,qn⟩ | ⟨go,Nn,hN,step⟩
  ·refine thn (T.done (cxB X scope N s₃ (upd H D (.lst [])) fp) rfl rfl rfl i [] s5 σ5 H5 _ I5 (fB fr5) st5 stop) fun r s6 ⟨hr,I6⟩=> ?_
   subst hr
   obtain ⟨m,hnC,_⟩:=I6.loc
   have un:=I6.base
   have u2:Un (frs X.stack) fp H H5 s₂.heap s6.heap:=by
    refine Un.trans ?_ un
    have:=Un.laid (fs:=frs X.stack) (ex:=fp) (H:=H) (h:=s₂.heap) (h':=s₃.heap) (a:=D) (o:= .lst []) push3 (Nat.le_of_eq hD) hfresh
    exact this
   refine hRR D _ H5 s6 m (I2.call' (ch:=fp) (by rw [I6.os, <-hs3]) u2 I6.hok I6.bare fun b hb=> ?_) hnC (by rw [sz3];exact Nat.le_succ _) hnC.lt I6.free qn
   obtain ⟨q0,q1,q2,q3,q4,q5⟩:=f2 b hb
   exact ⟨q3,q1,q4,q5⟩
  ·refine thn (T.item (cxB X scope N s₃ (upd H D (.lst [])) fp) rfl rfl rfl i [] s5 σ5 H5 _ I5 (fB fr5) st5 go) fun r s6 ⟨u,hr,h6⟩=> ?_
   subst hr
   refine thn h6 fun _ s7 ⟨x,H7,I7,r7,y7,st7,fr7⟩=> ?_
   have I7':=I7.pinned (fB fr7) (T.obj _ _ st7)
   refine thn (hg _ _ _ _ s7 σ5 H7 x u _ I7' r7 (step x H7 y7)) fun _ s8 ⟨σ8,H8,I8,q8⟩=> ?_
   refine thn (ht _ _ _ _ s8 σ8 H8 _ I8 q8) fun ok s9 ⟨H9,I9,q9⟩=> ?_
   have again: ∀ {σ7:St} {Hz:Hp} {sz:Shared},Inv (cxB X scope N s₃ (upd H D (.lst [])) fp) ([]++zf3 fp s7.heap) σ7 Hz sz->Nn σ7 Hz-> ∃ m,m<n/\ ∃ i σ' H',Inv (cxB X scope N s₃ (upd H D (.lst [])) fp) [] σ' H' sz/\tn i sz.heap/\(∀ b∈fp,H' b=none)/\W i m σ' H':=fun {σz Hz sz} Iz nz=>by
    obtain ⟨m',hm,wz⟩:=hN _ _ nz
    refine ⟨m',hm,i+1,_,_,Iz.unpinned,T.keep _ _ _ st7 fun b hb o e=>(Iz.pin (b,o) (qak _ (qak _ (zcD hb e)))).1,fun b hb=> ?_,wz⟩
    obtain ⟨o,e,d⟩:=T.obj _ _ st7 b hb
    exact (Iz.pin (b,o) (qak _ (qak _ (zcD hb e)))).2.1
   cases ok with
   | false=>
    rw [qa5 (by decide)] at q9
    rw [qa5 (by decide)]
    exact again I9 q9
   | true=>
    rw [qa4 rfl] at q9
    rw [qa4 rfl]
    refine thn (he _ _ _ _ s9 σ8 H9 _ I9 q9) fun y s10 ⟨yv,H10,I10,ry,xs,e10,z10,q10⟩=> ?_
    refine thn (zgr (X:=cxB X scope N s₃ (upd H D (.lst [])) fp) _ s10 σ8 H10 (.ref D) [yv] (.ref D) [y] (fun _ Hf=>Nn σ8 Hf) I10 rfl (.cons ry .nil) ⟨D,xs,yv,rfl,rfl,e10,z10,q10⟩) fun _ s11 ⟨_,H11,I11,_,q11⟩=> ?_
    exact again I11 q11
 exact codeAny_compStart_list (stat4 _ (by rw [<- hs3])) (T.self _ 0 _ _ _ (T.keep _ _ _ st2 fun b hb o e=>hk₁ b o (push3 b o e)) (stat4 _ (by rw [<- hs3])))
noncomputable def zlP (wi:TI) (g:TG) (tc:TT) (te:TE) (src:List (Option Nat)):TE:=fun σ H Q=>wi σ H fun J H1=> ∀ D,H1 D=none->zqY J g tc te (bStart src σ) H1 D fun H'=>Q (.ref D) H'
theorem Inv.letGo {pins:List (Addr×Obj)} {σ:St} {H:Hp} {s:Shared} {C:Addr} {m:Str->Option Value} {h':Heap} (I:Inv X pins σ H s) (hn:s.heap.Ns C m) (hn':H C=none) (hC:X.s₀.heap.objs.size<=C) (hL:C≠X.env.locals) (hp: ∀ p∈X.pn++pins,p.1≠C) (hs:Heap.SameBut C s.heap h'):Inv X pins σ H {s with heap:=h'}:=by
 refine I.turned (t':=s.toks) (it:=C) (fun b o hb e=>(hs.2 b hb).trans e) hn' hL (.inr hC) (fun x c e z=> ?_) hp
 obtain ⟨v,o,ho,hd⟩:=I.cell x c e
 obtain ⟨o',es,ep,ho',hd',_⟩:=hn
 rw [z,ho'] at ho
 cases ho
 rw [hd'] at hd
 cases hd
theorem zj4 {wi:TI} {g:TG} {tc:TT} {te:TE} (B:BOk X scope N src) (hi:PI X tg iter wi)
  (hg: ∀ s H fp,PG (cxB X scope N s H fp) tg g) (ht: ∀ s H fp,PCs (cxB X scope N s H fp) ifs tc) (he: ∀ s H fp,PE (cxB X scope N s H fp) elt te)
  (hs: ∀ x,foldedSetIterable iter X.env x=pure x:=by intro _;rfl):PE X (.ListComp elt [⟨tg,iter,ifs,0⟩] scope pos) (zlP wi g tc te src):=by
 intro pins s σ H Q I h
 rw [eval_ListComp]
 refine wpAny_comprehension_free (use:=none) rfl hs (zdk fun x hx e=>I.ok.has x.1 (B.free x hx e)) B.kind B.locs ?_
 refine thn (hi pins s σ H _ I h) fun v s1 h1=>thn h1 fun itv s2 h2=> ?_
 obtain ⟨it,fp,tn,J,H2,e,I2,T,st2,f2,hw⟩:=h2
 subst e
 refine zhO (RR:=fun acc C=>compPost (model X.prog X.w) X.A X.xe none (EP X pins σ Q) acc C) (Q:=fun D H'=>Q (.ref D) H') B hg ht he I2 T st2 f2 hw ?_
 intro D C H' s' m I' hn hC hCs hf q
 refine ⟨m,hn,fun h' hs'=>⟨.ref D,H',I'.letGo hn hf (qaS I2.sz hC) (fun z=> ?_) (fun p hp z=> ?_) hs',rfl,q⟩⟩
 ·exact qaN _ (qaw (z▸I2.lt) hC)
 ·have:=qaQ (I2.pin p hp).1
  rw [z] at this
  exact qaN _ (qaw this hC)
theorem ziF {wi:TI} {g:TG} {tc:TT} {te:TE} {i:Nat} {y:Str} {py spos:Pos} (B:BOk X scope N src) (hi:PI X tg iter wi)
  (hg: ∀ s H fp,PG (cxB X scope N s H fp) tg g) (ht: ∀ s H fp,PCs (cxB X scope N s H fp) ifs tc) (he: ∀ s H fp,PE (cxB X scope N s H fp) elt te)
  (hN:X.N.Nodup) (hy:X.N[i]? = some y) (hx:Loc X.env.scope y) (hsw:swapsWith (.ListComp elt [⟨tg,iter,ifs,0⟩] scope pos) (some (.Name y py)) spos.line X.env=pure true)
  (hf:X.fn y=true\/X.env.scope.names.lookup y=some .local:=by first | exact .inl rfl | exact .inr rfl | assumption)
  (hs: ∀ x,foldedSetIterable iter X.env x=pure x:=by intro _;rfl):PS X (.Assign [.Name y py] (.ListComp elt [⟨tg,iter,ifs,0⟩] scope pos) spos) (zq4 (zlP wi g tc te src) (zn5 i)):=by
 intro pins s σ H D0 I h
 rw [exec_Assign_Name_used _ _ _ _ hsw]
 refine qaW (wpAny_standAt (qaW ?_))
 show wpAny _ X.A (do let _<-comprehension (.ListComp elt [⟨tg,iter,ifs,0⟩] scope pos) scope X.env _ (newList []) false (eval iter X.env) (some (assign (.Name y py) X.env))) _ _ s
 refine qaW (qaZ (wpAny_comprehension_free (use:=some (assign (.Name y py) X.env)) (Q:=fun _ s'=>SP X pins D0 .next s') rfl hs (zdk fun x hx e=>I.ok.has x.1 (B.free x hx e)) B.kind B.locs ?_)
   (fun _ s' hq=>qaX (qaX hq)) fun _ _ e=>e)
 refine thn (hi pins s σ H _ I h) fun v s1 h1=>thn h1 fun itv s2 h2=> ?_
 obtain ⟨it,fp,tn,J,H2,e,I2,T,st2,f2,hw⟩:=h2
 subst e
 refine zhO (RR:=fun acc C=>compPost (model X.prog X.w) X.A X.xe (some (assign (.Name y py) X.env)) (fun _ s'=>SP X pins D0 .next s') acc C) (Q:=fun D H'=>D0.nx (σ.set i (some (.ref D))) H') B hg ht he I2 T st2 f2 hw ?_
 intro D C H' s' m I' hn hC hCs hf' q
 show wpAny _ X.A (assign (.Name y py) X.env (.ref D)) _ _ _
 have hCL:C≠X.env.locals:=fun z=>qaN _ (qaw (z▸I2.lt) hC)
 have hCp: ∀ p∈X.pn++pins,p.1≠C:=fun p hp z=>by
  have:=qaQ (I2.pin p hp).1
  rw [z] at this
  exact qaN _ (qaw this hC)
 have hCc: ∀ x c,X.env.cells.lookup x=some c->c≠C:=fun x c e z=>by
  obtain ⟨v,hv⟩:=I2.cell x c e
  exact qaN _ (qaw (z▸hv.lt) hC)
 obtain ⟨oC,es,ep,hoC,hdC,hrest⟩:=hn
 have hCfs:C∉X.fs:=I2.nofs hC
 have Ip:Inv X (pins++[(C,oC)]) σ H' s':=I'.pins_of fun p hp=>by
  rcases qaK.mp hp with z | z
  ·exact I'.pin p (qak _ z)
  ·obtain rfl:p=(C,oC):=by simpa using z
   exact ⟨hoC,hf',hCL,hCfs,fun v z=>by have z':=hdC.symm.trans z;cases z'⟩
 refine wpAny_assign_Name (zfj Ip hN hy hx (v:= .ref D) rfl (fun s3 I3=> ?_) hf)
 have hC3:=(I3.pin (C,oC) (by simp)).1
 refine ⟨m,⟨oC,es,ep,hC3,hdC,hrest⟩,fun h' hs'=> ?_⟩
 exact ⟨_,H',(I3.unpinned).letGo ⟨oC,es,ep,hC3,hdC,hrest⟩ hf' (qaS I2.sz hC) hCL hCp hs',q⟩
end
end L2
namespace L3
open PySem PySem.Spec PyProof.Rows L2
inductive D where
 | non | bl (b:Bool) | int (i:Int) | str (x:Str) | tup (xs:List D) | lst (xs:List D) | cel (n:Nat) | set (xs:List Int) | dct | fn (a:Addr) | scr (xs:List D) | exn (c:String)
inductive C where
 | lst (xs:List D) | dic (kvs:List (Int×D)) | dit (ks:List (List Int)) | ins (c:String) (fs:List (Str×D)) | dead
noncomputable abbrev Hh:=List C
structure Io where
 c:List (Option Addr)
 x:List Addr
def Io.Has (ι:Io) (a:Addr):Prop:=some a∈ι.c\/a∈ι.x
inductive R (α:Type) where
 | ok (a:α) (h:Hh) | exc (c:String) (h:Hh) | bad
noncomputable def M (α:Type):=Hh->R α
@[inline] noncomputable def M.bind {α β:Type} (m:M α) (f:α->M β):M β:=fun h=>match m h with
 | .ok a h'=>f a h'
 | .exc c h'=> .exc c h'
 | .bad=> .bad
@[inline] noncomputable def M.pure {α:Type} (a:α):M α:=fun h=> .ok a h
noncomputable instance:Monad M where
 pure:=M.pure
 bind:=M.bind
noncomputable def M.bad {α:Type}:M α:=fun _=> .bad
def KL (K:W.Frag) (a:Addr) (xs:List V):Prop:=SqL K (fun _=>none) a xs
mutual
noncomputable def Rel (K:W.Frag) (ι:Io) (H:Hp):D->V->Prop
 | .non,v=>v= .non
 | .bl b,v=>v= .bl b
 | .int i,v=>v= .int i
 | .str x,v=>v= .str x
 | .tup ds,v=> ∃ a vs,v= .ref a/\(H a=some (.tup vs)/\ ¬ι.Has a)/\zam K ι H ds vs
 | .lst ds,v=> ∃ a vs,v= .ref a/\(H a=some (.lst vs)/\ ¬ι.Has a)/\zam K ι H ds vs
 | .scr ds,v=> ∃ a vs,v= .ref a/\((Rd H a (.lst vs)/\ ¬ι.Has a)\/KL K a vs)/\zam K ι H ds vs
 | .cel n,v=> ∃ a,v= .ref a/\(ι.c[n]? = some (some a)\/ι.c[n]? = some none)
 | .set xs,v=> ∃ a,v= .ref a/\H a=some (.set (fun k=>xs.any (· == k)) xs.length)/\ ¬ι.Has a
 | .dct,v=> ∃ a,v= .ref a/\H a=some (.dK [])/\ ¬ι.Has a
 | .fn a,v=>v= .ref a
 | .exn c,v=> ∃ a o C head vs,v= .ref a/\(H a=some (.frz o (.own 0))/\ ¬ι.Has a)/\W.nsIn K mainGlobals (c:Str)=some (some (.ref C))/\o.cls= .ref C/\o.dict=none/\o.data= .fields vs/\vs[2]? = some .none/\vs[1]? = some head
noncomputable def zam (K:W.Frag) (ι:Io) (H:Hp):List D->List V->Prop
 | [],vs=>vs=[]
 | d::ds,vs=> ∃ v r,vs=v::r/\Rel K ι H d v/\zam K ι H ds r
end
structure za6 (ι:Io) (H:Hp) (ι':Io) (H':Hp):Prop where
 old: ∀ (n:Nat) (o:Option Addr),ι.c[n]? = some o->ι'.c[n]? = some o\/ι'.c[n]? = some none
 new: ∀ a,some a∈ι'.c->some a∈ι.c\/H a=none
 hid:ι'.x=ι.x
 hidk: ∀ a∈ι.x,H' a=H a
 keep: ∀ b o,H b=some o-> ¬ι.Has b->H' b=some o
theorem za6.refl (ι:Io) (H:Hp):za6 ι H ι H:=⟨fun _ _ h=> .inl h,fun _ h=> .inl h,rfl,fun _ _=>rfl,fun _ _ h _=>h⟩
theorem za6.nin {ι ι':Io} {H H':Hp} (s:za6 ι H ι' H') {a:Addr} {o:HO} (h:H a=some o) (n: ¬ι.Has a): ¬ι'.Has a:=fun z=>by
 rcases z with z | z
 ·rcases s.new a z with z | z
  ·exact n (.inl z)
  ·rw [h] at z;cases z
 ·rw [s.hid] at z;exact n (.inr z)
theorem za6.trans {ι ι1 ι2:Io} {H H1 H2:Hp} (s:za6 ι H ι1 H1) (t:za6 ι1 H1 ι2 H2):za6 ι H ι2 H2 where
 old:=fun n o h=>by
  rcases s.old n o h with h | h
  ·exact t.old n o h
  ·rcases t.old n _ h with h | h<;>exact .inr h
 new:=fun a h=>by
  rcases t.new a h with h | h
  ·exact s.new a h
  ·by_cases z:some a∈ι.c
   ·exact .inl z
   ·refine .inr ?_
    cases q:H a with
    | none=>rfl
    | some o=>
     by_cases z':a∈ι.x
     ·rw [s.hidk a z',q] at h;cases h
     ·rw [s.keep a o q (fun w=>w.elim z z')] at h;cases h
 hid:=t.hid.trans s.hid
 hidk:=fun a h=>(t.hidk a (by rw [s.hid];exact h)).trans (s.hidk a h)
 keep:=fun b o h n=>t.keep b o (s.keep b o h n) (s.nin h n)
theorem za6.rd {ι ι':Io} {H H':Hp} (s:za6 ι H ι' H') {a:Addr} {u:HO} (h:Rd H a u) (n: ¬ι.Has a):Rd H' a u/\ ¬ι'.Has a:=by
 rcases h with h | ⟨o,h⟩
 ·exact ⟨.inl (s.keep _ _ h n),s.nin h n⟩
 ·exact ⟨.inr ⟨o,s.keep _ _ h n⟩,s.nin h n⟩
structure Pass (ι:Io) (H:Hp) (ι':Io) (H':Hp):Prop where
 old: ∀ (n:Nat) (o:Option Addr),ι.c[n]? = some o->ι'.c[n]? = some o\/ι'.c[n]? = some none
 keep: ∀ b o,H b=some o-> ¬ι.Has b->H' b=some o/\ ¬ι'.Has b
theorem za6.pass {ι ι':Io} {H H':Hp} (s:za6 ι H ι' H'):Pass ι H ι' H':=⟨s.old,fun b o h n=>⟨s.keep b o h n,s.nin h n⟩⟩
theorem Pass.rd {ι ι':Io} {H H':Hp} (s:Pass ι H ι' H') {a:Addr} {u:HO} (h:Rd H a u) (n: ¬ι.Has a):Rd H' a u/\ ¬ι'.Has a:=by
 rcases h with h | ⟨o,h⟩
 ·exact ⟨.inl (s.keep _ _ h n).1,(s.keep _ _ h n).2⟩
 ·exact ⟨.inr ⟨o,(s.keep _ _ h n).1⟩,(s.keep _ _ h n).2⟩
section
variable {K:W.Frag} {ι ι':Io} {H H':Hp}
mutual
theorem Rel.pass (s:Pass ι H ι' H'): ∀ {d:D} {v:V},Rel K ι H d v->Rel K ι' H' d v
 | .non,_,h=>by simpa [Rel] using h
 | .bl _,_,h=>by simpa [Rel] using h
 | .int _,_,h=>by simpa [Rel] using h
 | .str _,_,h=>by simpa [Rel] using h
 | .tup ds,v,h=>by
  simp only [Rel] at h ⊢
  obtain ⟨a,vs,e,h1,h2⟩:=h
  exact ⟨a,vs,e,s.keep _ _ h1.1 h1.2,zam.pass s h2⟩
 | .lst ds,v,h=>by
  simp only [Rel] at h ⊢
  obtain ⟨a,vs,e,h1,h2⟩:=h
  exact ⟨a,vs,e,s.keep _ _ h1.1 h1.2,zam.pass s h2⟩
 | .scr ds,v,h=>by
  simp only [Rel] at h ⊢
  obtain ⟨a,vs,e,h1,h2⟩:=h
  exact ⟨a,vs,e,h1.imp (fun z=>s.rd z.1 z.2) id,zam.pass s h2⟩
 | .cel n,v,h=>by
  simp only [Rel] at h ⊢
  obtain ⟨a,e,h⟩:=h
  refine ⟨a,e,?_⟩
  rcases h with h | h
  ·exact s.old n _ h
  ·rcases s.old n _ h with h | h<;>exact .inr h
 | .set xs,v,h=>by
  simp only [Rel] at h ⊢
  obtain ⟨a,e,h,n⟩:=h
  exact ⟨a,e,(s.keep _ _ h n).1,(s.keep _ _ h n).2⟩
 | .dct,v,h=>by
  simp only [Rel] at h ⊢
  obtain ⟨a,e,h,n⟩:=h
  exact ⟨a,e,(s.keep _ _ h n).1,(s.keep _ _ h n).2⟩
 | .fn _,_,h=>by simpa [Rel] using h
 | .exn _,_,h=>by
  simp only [Rel] at h ⊢
  obtain ⟨a,o,C,head,vs,e,h1,h2⟩:=h
  exact ⟨a,o,C,head,vs,e,s.keep _ _ h1.1 h1.2,h2⟩
theorem zam.pass (s:Pass ι H ι' H'): ∀ {ds:List D} {vs:List V},zam K ι H ds vs->zam K ι' H' ds vs
 | [],_,h=>by simpa [zam] using h
 | d::ds,_,h=>by
  simp only [zam] at h ⊢
  obtain ⟨v,r,e,h1,h2⟩:=h
  exact ⟨v,r,e,Rel.pass s h1,zam.pass s h2⟩
end
theorem Rel.step (s:za6 ι H ι' H') {d:D} {v:V} (h:Rel K ι H d v):Rel K ι' H' d v:=h.pass s.pass
theorem zam.step (s:za6 ι H ι' H') {ds:List D} {vs:List V} (h:zam K ι H ds vs):zam K ι' H' ds vs:=h.pass s.pass
theorem zam.nil:zam K ι H [] []:=by simp [zam]
theorem zam.cons {d:D} {ds:List D} {v:V} {vs:List V} (h:Rel K ι H d v) (t:zam K ι H ds vs):zam K ι H (d::ds) (v::vs):=by simp only [zam];exact ⟨v,vs,rfl,h,t⟩
theorem zam.length: ∀ {ds:List D} {vs:List V},zam K ι H ds vs->ds.length=vs.length
 | [],_,h=>by simp only [zam] at h;subst h;rfl
 | d::ds,_,h=>by
  simp only [zam] at h
  obtain ⟨v,r,rfl,_,h⟩:=h
  simp [zam.length h]
theorem zam.get: ∀ {ds:List D} {vs:List V} {i:Nat} {d:D},zam K ι H ds vs->ds[i]? = some d-> ∃ v,vs[i]? = some v/\Rel K ι H d v
 | [],_,_,_,_,e=>by simp at e
 | d::ds,_,i,x,h,e=>by
  simp only [zam] at h
  obtain ⟨v,r,rfl,h1,h2⟩:=h
  cases i with
  | zero=>simp at e;subst e;exact ⟨v,rfl,h1⟩
  | succ i=>simp at e;simpa using zam.get h2 e
theorem zam.getV: ∀ {ds:List D} {vs:List V} {i:Nat} {v:V},zam K ι H ds vs->vs[i]? = some v-> ∃ d,ds[i]? = some d/\Rel K ι H d v
 | [],_,_,_,h,e=>by simp only [zam] at h;subst h;simp at e
 | d::ds,_,i,x,h,e=>by
  simp only [zam] at h
  obtain ⟨v,r,rfl,h1,h2⟩:=h
  cases i with
  | zero=>simp at e;subst e;exact ⟨d,rfl,h1⟩
  | succ i=>simp at e;simpa using zam.getV h2 e
theorem zam.append: ∀ {ds es:List D} {vs ws:List V},zam K ι H ds vs->zam K ι H es ws->zam K ι H (ds++es) (vs++ws)
 | [],_,_,_,h,t=>by simp only [zam] at h;subst h;exact t
 | d::ds,es,_,ws,h,t=>by
  simp only [zam] at h
  obtain ⟨v,r,rfl,h1,h2⟩:=h
  exact zam.cons h1 (zam.append h2 t)
theorem zam.take: ∀ {ds:List D} {vs:List V} (n:Nat),zam K ι H ds vs->zam K ι H (ds.take n) (vs.take n)
 | _,_,0,_=>by simpa using zam.nil
 | [],_,n+1,h=>by simp only [zam] at h;subst h;exact zam.nil
 | d::ds,_,n+1,h=>by
  simp only [zam] at h
  obtain ⟨v,r,rfl,h1,h2⟩:=h
  exact zam.cons h1 (zam.take n h2)
theorem zam.drop: ∀ {ds:List D} {vs:List V} (n:Nat),zam K ι H ds vs->zam K ι H (ds.drop n) (vs.drop n)
 | _,_,0,h=>h
 | [],_,n+1,h=>by simp only [zam] at h;subst h;exact zam.nil
 | d::ds,_,n+1,h=>by
  simp only [zam] at h
  obtain ⟨v,r,rfl,h1,h2⟩:=h
  exact zam.drop n h2
theorem zam.reverse {ds:List D} {vs:List V} (h:zam K ι H ds vs):zam K ι H ds.reverse vs.reverse:=by
 induction ds generalizing vs with
 | nil=>simp only [zam] at h;subst h;exact zam.nil
 | cons d ds ih=>
  simp only [zam] at h
  obtain ⟨v,r,rfl,h1,h2⟩:=h
  rw [List.reverse_cons,List.reverse_cons]
  exact zam.append (ih h2) (zam.cons h1 zam.nil)
theorem zam.set {d:D} {v:V} (hd:Rel K ι H d v): ∀ {ds:List D} {vs:List V} (i:Nat),zam K ι H ds vs->zam K ι H (ds.set i d) (vs.set i v)
 | [],_,_,h=>by simp only [zam] at h;subst h;exact zam.nil
 | x::ds,_,i,h=>by
  simp only [zam] at h
  obtain ⟨w,r,rfl,h1,h2⟩:=h
  cases i with
  | zero=>exact zam.cons hd h2
  | succ i=>exact zam.cons h1 (zam.set hd i h2)
theorem zbx: ∀ {is:List Int} {vs:List V},zam K ι H (is.map D.int) vs↔vs=is.map V.int
 | [],vs=>by simp [zam]
 | i::is,vs=>by
  simp only [qaM,zam]
  constructor
  ·rintro ⟨v,r,rfl,h1,h2⟩
   simp only [Rel] at h1
   rw [h1,zbx.mp h2]
  ·rintro rfl
   exact ⟨_,_,rfl,by simp [Rel],zbx.mpr rfl⟩
noncomputable def CO (K:W.Frag) (ι:Io) (H:Hp):C->HO->Prop
 | .lst ds,o=> ∃ vs,o= .lst vs/\zam K ι H ds vs
 | .dic kvs,o=> ∃ vs,o= .dK vs/\Paired (fun (p:Int×D) (q:Key×V)=>q.1= .inl p.1/\Rel K ι H p.2 q.2) kvs vs
 | .dit ks,o=>o= .dT (ks.map fun k=>(k.map Sum.inl,V.bl true))
 | .ins c fs,o=> ∃ C dx vs,o= .ins C dx vs/\W.nsIn K mainGlobals (c:Str)=some (some (.ref C))/\Paired (fun (p:Str×D) (q:Str×V)=>q.1=p.1/\Rel K ι H p.2 q.2) fs vs
 | .dead,_=>False
theorem CO.pass {c:C} {o:HO} (s:Pass ι H ι' H') (h:CO K ι H c o):CO K ι' H' c o:=by
 cases c with
 | lst ds=>obtain ⟨vs,e,r⟩:=h;exact ⟨vs,e,r.pass s⟩
 | dic kvs=>
  obtain ⟨vs,e,r⟩:=h
  refine ⟨vs,e,?_⟩
  clear e
  induction r with
  | nil=>exact .nil
  | cons a t ih=>exact .cons ⟨a.1,a.2.pass s⟩ ih
 | dit ks=>exact h
 | ins c fs=>
  obtain ⟨C,dx,vs,e,hc,r⟩:=h
  refine ⟨C,dx,vs,e,hc,?_⟩
  clear e
  induction r with
  | nil=>exact .nil
  | cons a t ih=>exact .cons ⟨a.1,a.2.pass s⟩ ih
 | dead=>exact h
structure zaQ (K:W.Frag) (ι:Io) (H:Hp) (h:Hh):Prop where
 len:h.length=ι.c.length
 inj: ∀ (m n:Nat) (a:Addr),ι.c[m]? = some (some a)->ι.c[n]? = some (some a)->m=n
 at_: ∀ (n:Nat) (a:Addr) (c:C),ι.c[n]? = some (some a)->h[n]? = some c-> ∃ o,H a=some o/\CO K ι H c o
 dead: ∀ (n:Nat),ι.c[n]? = some none->h[n]? = some .dead
 hidt: ∀ a∈ι.x,(∃ vs,H a=some (.lst vs))/\some a∉ι.c
noncomputable abbrev Sd:=List (Option D)
def zbJ (K:W.Frag) (ι:Io) (H:Hp) (sd:Sd) (σ:L2.St):Prop:=sd.length=σ.length/\ ∀ (i:Nat) (d:D),sd[i]? = some (some d)-> ∃ v,σ[i]? = some (some v)/\Rel K ι H d v
theorem zbJ.pass {sd:Sd} {σ:L2.St} (s:Pass ι H ι' H') (h:zbJ K ι H sd σ):zbJ K ι' H' sd σ:=⟨h.1,fun i d e=>let ⟨v,h1,h2⟩:=h.2 i d e;⟨v,h1,h2.pass s⟩⟩
theorem zbJ.step {sd:Sd} {σ:L2.St} (s:za6 ι H ι' H') (h:zbJ K ι H sd σ):zbJ K ι' H' sd σ:=⟨h.1,fun i d e=>let ⟨v,h1,h2⟩:=h.2 i d e;⟨v,h1,h2.step s⟩⟩
theorem zbJ.set {sd:Sd} {σ:L2.St} {d:D} {v:V} (h:zbJ K ι H sd σ) (r:Rel K ι H d v) (i:Nat):zbJ K ι H (sd.set i (some d)) (σ.set i (some v)):=by
 refine ⟨by rw [qaI,qaI];exact h.1,fun j d' e=> ?_⟩
 by_cases hij:i=j
 ·subst hij
  by_cases hl:i<sd.length
  ·rw [qai hl] at e
   cases e
   exact ⟨v,by rw [qai (by rw [<- h.1];exact hl)],r⟩
  ·rw [List.getElem?_eq_none (by rw [qaI];omega)] at e
   cases e
 ·rw [qao hij] at e ⊢
  exact h.2 j d' e
theorem zbJ.skip {sd:Sd} {σ:L2.St} {o:Option V} (h:zbJ K ι H sd σ) (i:Nat) (hn:sd[i]? = some none):zbJ K ι H sd (σ.set i o):=by
 refine ⟨by rw [qaI];exact h.1,fun j d' e=> ?_⟩
 by_cases hij:i=j
 ·subst hij;rw [hn] at e;cases e
 ·rw [qao hij];exact h.2 j d' e
end
noncomputable abbrev St:=L2.St
noncomputable abbrev XE:=String->Hp->Prop
def Fin {α:Type} (K:W.Frag) (E:XE) (ι:Io) (H:Hp) (r:R α) (P:α->Io->Hp->Prop):Prop:=match r with
 | .ok a h'=> ∀ ι' H',za6 ι H ι' H'->zaQ K ι' H' h'->P a ι' H'
 | .exc c h'=> ∀ ι' H',za6 ι H ι' H'->zaQ K ι' H' h'->E c H'
 | .bad=>False
section
variable {α β:Type} {K:W.Frag} {E:XE} {ι ι':Io} {H H':Hp}
theorem Fin.step {r:R α} {P:α->Io->Hp->Prop} (s:za6 ι H ι' H') (h:Fin K E ι H r P):Fin K E ι' H' r P:=by
 cases r with
 | ok a h'=>exact fun ι2 H2 t hr=>h ι2 H2 (s.trans t) hr
 | exc c h'=>exact fun ι2 H2 t hr=>h ι2 H2 (s.trans t) hr
 | bad=>exact h
theorem Fin.mono {r:R α} {P P':α->Io->Hp->Prop} (h:Fin K E ι H r P) (m: ∀ a ι' H',P a ι' H'->P' a ι' H'):Fin K E ι H r P':=by
 cases r with
 | ok a h'=>exact fun ι2 H2 t hr=>m _ _ _ (h ι2 H2 t hr)
 | exc c h'=>exact h
 | bad=>exact h
theorem Fin.bind {m:M α} {f:α->M β} {h:Hh} {P:β->Io->Hp->Prop} {P':α->Io->Hp->Prop} (q:Fin K E ι H ((m>>=f) h) P)
  (k: ∀ a h' ι' H',m h= .ok a h'->za6 ι H ι' H'->zaQ K ι' H' h'->Fin K E ι' H' (f a h') P->P' a ι' H'):Fin K E ι H (m h) P':=by
 have q':Fin K E ι H (M.bind m f h) P:=q
 unfold M.bind at q'
 cases e:m h with
 | ok a h'=>
  rw [e] at q'
  intro ι' H' s hr
  exact k a h' ι' H' e s hr (Fin.step s q')
 | exc c h'=>rw [e] at q';exact q'
 | bad=>rw [e] at q';exact q'
theorem Fin.out {a:α} {h:Hh} {P:α->Io->Hp->Prop} (hr:zaQ K ι H h) (q:Fin K E ι H ((pure a:M α) h) P):P a ι H:=q ι H (za6.refl _ _) hr
theorem Fin.no {h:Hh} {P:α->Io->Hp->Prop} {Z:Prop} (q:Fin K E ι H ((M.bad:M α) h) P):Z:=qa0 q
end
noncomputable def zgK (K:W.Frag) (E:XE) (f:Sd->M D):TE:=fun σ H Q=> ∃ ι h sd,zbJ K ι H sd σ/\zaQ K ι H h/\Fin K E ι H (f sd h) fun d ι' H'=> ∀ v,Rel K ι' H' d v->Q v H'
noncomputable def zhc (K:W.Frag) (E:XE) (f:Sd->M Bool):TT:=fun σ H Q=> ∃ ι h sd,zbJ K ι H sd σ/\zaQ K ι H h/\Fin K E ι H (f sd h) fun b ι' H'=>Q b H'
noncomputable def zsQ (K:W.Frag) (E:XE) (f:Sd->M (List D)):TA:=fun σ H Q=> ∃ ι h sd,zbJ K ι H sd σ/\zaQ K ι H h/\Fin K E ι H (f sd h) fun ds ι' H'=> ∀ vs,zam K ι' H' ds vs->Q vs H'
noncomputable abbrev SE (X:Cx) (E:XE) (e:Expr) (f:Sd->M D):Prop:=PE X e (zgK X.K E f)
noncomputable abbrev ST (X:Cx) (E:XE) (e:Expr) (f:Sd->M Bool):Prop:=PT X e (zhc X.K E f)
noncomputable abbrev SA (X:Cx) (E:XE) (es:List Expr) (f:Sd->M (List D)):Prop:=PA X es (zsQ X.K E f)
noncomputable def zdq (K:W.Frag) (E:XE) (F:D->D->M D):R2:=fun x y H Q=> ∃ ι h d1 d2,Rel K ι H d1 x/\Rel K ι H d2 y/\zaQ K ι H h/\Fin K E ι H (F d1 d2 h) fun d ι' H'=> ∀ v,Rel K ι' H' d v->Q v H'
noncomputable def zhs (K:W.Frag) (E:XE) (F:List D->M D):List V->Hp->VK->Prop:=fun xs H Q=> ∃ ι h ds,zam K ι H ds xs/\zaQ K ι H h/\Fin K E ι H (F ds h) fun d ι' H'=> ∀ v,Rel K ι' H' d v->Q v H'
theorem PE.imp {X:Cx} {e:Expr} {t t':TE} (h:PE X e t) (m: ∀ σ H Q,t' σ H Q->t σ H Q):PE X e t':=fun pins s σ H Q I q=>h pins s σ H Q I (m _ _ _ q)
theorem PT.imp {X:Cx} {e:Expr} {t t':TT} (h:PT X e t) (m: ∀ σ H Q,t' σ H Q->t σ H Q):PT X e t':=fun pins s σ H Q I q=>h pins s σ H Q I (m _ _ _ q)
theorem PA.imp {X:Cx} {e:List Expr} {t t':TA} (h:PA X e t) (m: ∀ σ H Q,t' σ H Q->t σ H Q):PA X e t':=fun pos pins s σ H Q I q=>h pos pins s σ H Q I (m _ _ _ q)
theorem OpR.imp {X:Cx} {f:Value->Value->Sem Value} {r r':R2} (h:OpR X f r) (m: ∀ x y H Q,r' x y H Q->r x y H Q):OpR X f r':=fun pins s σ H x y v u Q I rx ry q=>h pins s σ H x y v u Q I rx ry (m _ _ _ _ q)
theorem zaD.imp {X:Cx} {f:Value} {r r':List V->Hp->VK->Prop} (h:zaD X f r) (m: ∀ xs H Q,r' xs H Q->r xs H Q):zaD X f r':=by
 intro pins s σ H xs us Q I rx q
 exact h pins s σ H xs us Q I rx (m _ _ _ q)
theorem IxR.imp {X:Cx} {r r':R2} (h:IxR X r) (m: ∀ x y H Q,r' x y H Q->r x y H Q):IxR X r':=by
 intro value slice pins s σ H x y v u Q I rx ry q hs
 exact h value slice pins s σ H x y v u Q I rx ry (m _ _ _ _ q) hs
theorem MtM.imp {X:Cx} {id:String} {r r':V->List V->Hp->VK->Prop} (h:MtM X id r) (m: ∀ x xs H Q,r' x xs H Q->r x xs H Q):MtM X id r':=fun pins s σ H x xs v us Q I rx rs q=>h pins s σ H x xs v us Q I rx rs (m _ _ _ _ q)
theorem SlR.imp {X:Cx} {r r':V->Option Int->Option Int->Hp->VK->Prop} (h:SlR X r) (m: ∀ x l u H Q,r' x l u H Q->r x l u H Q):SlR X r':=fun pins s σ H x v vl vu lo hi sl Q I rx hs pl pu q=>h pins s σ H x v vl vu lo hi sl Q I rx hs pl pu (m _ _ _ _ _ q)
theorem zox.imp {X:Cx} {r r':zoP} (h:zox X r) (m: ∀ o i v H Q,r' o i v H Q->r o i v H Q):zox X r':=fun pins s σ H o i v ov iv u Q I ro ri rv q=>h pins s σ H o i v ov iv u Q I ro ri rv (m _ _ _ _ _ q)
theorem PI.imp {X:Cx} {tg iter:Expr} {t t':TI} (h:PI X tg iter t) (m: ∀ σ H Q,t' σ H Q->t σ H Q):PI X tg iter t':=fun pins s σ H Q I q=>h pins s σ H Q I (m _ _ _ q)
theorem PG.imp {X:Cx} {tg:Expr} {t t':TG} (h:PG X tg t) (m: ∀ v σ H Q,t' v σ H Q->t v σ H Q):PG X tg t':=fun pins s σ H v u Q I r q=>h pins s σ H v u Q I r (m _ _ _ _ q)
theorem PS.imp {X:Cx} {st:Stmt} {t t':TS} (h:PS X st t) (m: ∀ D σ H,t' D σ H->t D σ H):PS X st t':=fun pins s σ H D I q=>h pins s σ H D I (m _ _ _ q)
theorem PSs.imp {X:Cx} {st:List Stmt} {t t':TS} (h:PSs X st t) (m: ∀ D σ H,t' D σ H->t D σ H):PSs X st t':=fun pins s σ H D I q=>h pins s σ H D I (m _ _ _ q)
section
variable {X:Cx} {E:XE} {a b e:Expr} {es:List Expr} {pos:Pos} {fa fb:Sd->M D}
theorem te2 {K:W.Frag} {F:D->D->M D} {r:R2} (hr: ∀ x y H Q,zdq K E F x y H Q->r x y H Q) (σ:St) (H:Hp) (Q:VK) (q:zgK K E (fun sd=>do let x<-fa sd;let y<-fb sd;F x y) σ H Q):tOp r (zgK K E fa) (zgK K E fb) σ H Q:=by
 obtain ⟨ι,h,sd,L,hh,q⟩:=q
 refine ⟨ι,h,sd,L,hh,Fin.bind q fun d1 h1 ι1 H1 e1 s1 hr1 q1 v r1=> ?_⟩
 refine ⟨ι1,h1,sd,L.step s1,hr1,Fin.bind q1 fun d2 h2 ι2 H2 e2 s2 hr2 q2 w r2=> ?_⟩
 exact hr _ _ _ _ ⟨ι2,h2,d1,d2,r1.step s2,r2,hr2,q2⟩
theorem zrm {op:Operator} {F:D->D->M D} (ho:OpR X (binaryOp op) (zdq X.K E F)) (ha:SE X E a fa) (hb:SE X E b fb):SE X E (.BinOp a op b pos) (fun sd=>do let x<-fa sd;let y<-fb sd;F x y):=
 PE.imp (zrP ho ha hb) (te2 fun _ _ _ _ q=>q)
theorem zoR {op:CmpOp} {F:D->D->M D} (ho:OpR X (compareOp op) (zdq X.K E F)) (ha:SE X E a fa) (hb:SE X E b fb) (hm:behindInMarks op b=false):SE X E (.Compare a [op] [b] pos) (fun sd=>do let x<-fa sd;let y<-fb sd;F x y):=
 PE.imp (zm2 ho ha hb hm) (te2 fun _ _ _ _ q=>q)
theorem zqG {F:D->D->M D} (ho:IxR X (zdq X.K E F)) (ha:SE X E a fa) (hb:SE X E b fb) (hs:zfi b):SE X E (.Subscript a b pos) (fun sd=>do let x<-fa sd;let y<-fb sd;F x y):=
 PE.imp (zq9 ho ha hb hs) (te2 fun _ _ _ _ q=>q)
noncomputable def zcJ:D->M Bool
 | .bl b=>pure b
 | _=>M.bad
theorem zfC {K:W.Frag} {f:Sd->M D} (σ:St) (H:Hp) (Q:Bool->Hp->Prop) (q:zhc K E (fun sd=>do let x<-f sd;zcJ x) σ H Q):(zgK K E f) σ H fun x H1=> ∃ c,x= .bl c/\Q c H1:=by
 obtain ⟨ι,h,sd,L,hh,q⟩:=q
 refine ⟨ι,h,sd,L,hh,Fin.bind q fun d1 h1 ι1 H1 e1 s1 hr1 q2 v r1=> ?_⟩
 cases d1 with
 | bl b=>simp only [Rel] at r1;exact ⟨b,r1,Fin.out hr1 q2⟩
 | _=>exact qa0 q2
theorem zqn {op:CmpOp} {F:D->D->M D} (ho:OpR X (compareOp op) (zdq X.K E F)) (ha:SE X E a fa) (hb:SE X E b fb) (hm:behindInMarks op b=false):
  ST X E (.Compare a [op] [b] pos) (fun sd=>do let z<-(do let x<-fa sd;let y<-fb sd;F x y);zcJ z):=by
 refine PT.imp (zna ho ha hb hm) fun σ H Q q=> ?_
 have q1:=zfC (f:=fun sd=>do let x<-fa sd;let y<-fb sd;F x y) σ H Q q
 exact te2 (fun _ _ _ _ q=>q) σ H _ q1
theorem zpK {f:Sd->M D} (h:SE X E e f) (he: ∀ whole,isTrue e X.env whole=(do let v<-whole;standAt e.pos;holding [v] (truthy v)):=by intro _;rfl):ST X E e (fun sd=>do let x<-f sd;zcJ x):=
 PT.imp (zoM h he) fun σ H Q q=>zfC σ H Q q
theorem zpa {t:Sd->M Bool} (ha:ST X E a t):ST X E (.UnaryOp .Not a pos) (fun sd=>do let c<-t sd;pure (!c)):=by
 refine PT.imp (zqg ha) fun σ H Q ⟨ι,h,sd,L,hh,q⟩=>⟨ι,h,sd,L,hh,Fin.bind q fun c h1 ι1 H1 e1 s1 hr1 q1=> ?_⟩
 exact Fin.out hr1 q1
theorem zpX {t:Sd->M Bool} (ha:ST X E a t):PW X (.BoolOp .Or [a] pos) (zhc X.K E t):=pw_or1 ha
theorem PW.imp {t t':TT} (h:PW X e t) (m: ∀ σ H Q,t' σ H Q->t σ H Q):PW X e t':=fun whole pins s σ H Q I q=>h whole pins s σ H Q I (m _ _ _ q)
theorem zrb {rest:List Expr} {t u:Sd->M Bool} (ha:ST X E a t) (hb:PW X (.BoolOp .Or (b::rest) pos) (zhc X.K E u)):PW X (.BoolOp .Or (a::b::rest) pos) (zhc X.K E fun sd=>do let c<-t sd;if c=true then pure true else u sd):=by
 refine PW.imp (pw_or ha hb) fun σ H Q ⟨ι,h,sd,L,hh,q⟩=>⟨ι,h,sd,L,hh,Fin.bind q fun c h1 ι1 H1 e1 s1 hr1 q1=> ?_⟩
 cases c with
 | false=>exact zqK ⟨ι1,h1,sd,L.step s1,hr1,q1⟩
 | true=>exact zqy (Fin.out hr1 q1)
theorem znW {op:BoolOp} {vs:List Expr} {t:Sd->M Bool} (h:PW X (.BoolOp op vs pos) (zhc X.K E t)):ST X E (.BoolOp op vs pos) t:=h.pt
theorem zqM {op:BoolOp} (h:SE X E a fa):SE X E (.BoolOp op [a] pos) fa:=zoW h
theorem zo3 {rest:List Expr} (ha:SE X E a fa) (hb:SE X E (.BoolOp .And (b::rest) pos) fb):SE X E (.BoolOp .And (a::b::rest) pos) (fun sd=>do let c<-(do let x<-fa sd;zcJ x);if c=true then fb sd else pure (.bl false)):=by
 refine PE.imp (zqJ ha hb) fun σ H Q ⟨ι,h,sd,L,hh,q⟩=> ?_
 have q1:=zfC (K:=X.K) (E:=E) (f:=fa) σ H (fun c H1=>if c=true then zgK X.K E fb σ H1 Q else Q (.bl false) H1) ⟨ι,h,sd,L,hh,Fin.bind q fun c h1 ι1 H1 e1 s1 hr1 q1=> ?_⟩
 ·exact q1
 ·cases c with
  | true=>exact zqy ⟨ι1,h1,sd,L.step s1,hr1,q1⟩
  | false=>exact zqK (Fin.out hr1 q1 _ (by simp [Rel]))
theorem zp0 (ha:SE X E a fa):SE X E (.UnaryOp .Not a pos) (fun sd=>do let c<-(do let x<-fa sd;zcJ x);pure (.bl (!c))):=by
 refine PE.imp (zqm ha) fun σ H Q ⟨ι,h,sd,L,hh,q⟩=> ?_
 have q1:=zfC (K:=X.K) (E:=E) (f:=fa) σ H (fun c H1=>Q (.bl (!c)) H1) ⟨ι,h,sd,L,hh,Fin.bind q fun c h1 ι1 H1 e1 s1 hr1 q1=> ?_⟩
 ·exact q1
 ·exact Fin.out hr1 q1 _ (by simp [Rel])
noncomputable def zag (i:Nat):Sd->M D:=fun sd=>match sd[i]? with
 | some (some d)=>pure d
 | _=>M.bad
theorem zpW (i:Nat) {x:Str} (hN:X.N[i]? = some x) (hv:Vis X.env.scope x) (hd:(x==("__debug__":Str))=false:=by decide) (hcd:(x==("__classdict__":Str))=false:=by decide):SE X E (.Name x pos) (zag i):=by
 refine PE.imp (zml hN hv hd hcd) fun σ H Q ⟨ι,h,sd,L,hh,q⟩=> ?_
 unfold zag at q
 cases e:sd[i]? with
 | none=>rw [e] at q;exact qa0 q
 | some o=>
  rw [e] at q
  cases o with
  | none=>exact qa0 q
  | some d=>
   obtain ⟨v,e1,r⟩:=L.2 i d e
   exact ⟨v,e1,Fin.out hh q v r⟩
theorem zd6 {K:W.Frag} {d:D} {v:V} (r: ∀ ι H,Rel K ι H d v) (σ:St) (H:Hp) (Q:VK) (q:zgK K E (fun _=>pure d) σ H Q):tC v σ H Q:=by
 obtain ⟨ι,h,sd,L,hh,q⟩:=q
 exact Fin.out hh q v (r _ _)
theorem zpm {i:Int} {j:Nat}:SE X E (.Constant (.int i) j pos) (fun _=>pure (.int i)):=PE.imp zmp (zd6 fun _ _=>by simp [Rel])
theorem zrQ {i:Bool} {j:Nat}:SE X E (.Constant (.bool i) j pos) (fun _=>pure (.bl i)):=PE.imp zpS (zd6 fun _ _=>by simp [Rel])
theorem zpU {j:Nat}:SE X E (.Constant .none j pos) (fun _=>pure .non):=PE.imp zpR (zd6 fun _ _=>by simp [Rel])
theorem zpB {i:Str} {j:Nat}:SE X E (.Constant (.str i) j pos) (fun _=>pure (.str i)):=PE.imp zmD (zd6 fun _ _=>by simp [Rel])
theorem zqi:SA X E [] (fun _=>pure []):=PA.imp za8 fun σ H Q ⟨ι,h,sd,L,hh,q⟩=>Fin.out hh q [] zam.nil
theorem znf {fs:Sd->M (List D)} (ha:SE X E e fa) (hr:SA X E es fs) (hs:starEach (e::es) X.env=(false,eval e X.env)::starEach es X.env:=by rfl):SA X E (e::es) (fun sd=>do let x<-fa sd;let r<-fs sd;pure (x::r)):=by
 refine PA.imp (zaE ha hr hs) fun σ H Q ⟨ι,h,sd,L,hh,q⟩=>⟨ι,h,sd,L,hh,Fin.bind q fun d h1 ι1 H1 e1 s1 hr1 q1 v rv=> ?_⟩
 refine ⟨ι1,h1,sd,L.step s1,hr1,Fin.bind q1 fun ds h2 ι2 H2 e2 s2 hr2 q2 vs rvs=> ?_⟩
 exact Fin.out hr2 q2 _ (zam.cons (rv.step s2) rvs)
end
theorem zaQ.nin {K:W.Frag} {ι:Io} {H:Hp} {h:Hh} (hr:zaQ K ι H h) {p:Addr} (hp:H p=none): ¬ι.Has p:=fun z=>by
 rcases z with z | z
 ·obtain ⟨n,hn⟩:=List.mem_iff_getElem?.mp z
  have hl:n<h.length:=by rw [hr.len];exact (qac.mp hn).1
  obtain ⟨o,e,_⟩:=hr.at_ n p h[n] hn (by simp [hl])
  rw [hp] at e
  cases e
 ·obtain ⟨⟨o,e⟩,_⟩:=hr.hidt p z
  rw [hp] at e
  cases e
theorem zaQ.laidS {K:W.Frag} {ι:Io} {H:Hp} {h:Hh} (hr:zaQ K ι H h) {p:Addr} {o:HO} (hp:H p=none):za6 ι H ι (upd H p o):=
 ⟨fun _ _ h=> .inl h,fun _ h=> .inl h,rfl,fun a ha=>zas fun z=>hr.nin hp (.inr (z▸ha)),fun b o' h _=>by rw [zas (zaH h hp)];exact h⟩
theorem zaQ.laid {K:W.Frag} {ι:Io} {H:Hp} {h:Hh} {p:Addr} {o:HO} (hr:zaQ K ι H h) (hp:H p=none):zaQ K ι (upd H p o) h:=
 ⟨hr.len,hr.inj,fun n a c hn hc=>by
   obtain ⟨o',e2,e3⟩:=hr.at_ n a c hn hc
   exact ⟨o',by rw [zas (zaH e2 hp)];exact e2,e3.pass (hr.laidS hp).pass⟩,hr.dead,fun a ha=>⟨by rw [zas (show a≠p from fun z=>hr.nin hp (.inr (z▸ha)))];exact (hr.hidt a ha).1,(hr.hidt a ha).2⟩⟩
noncomputable def fits (n:Nat):M Unit:=if n<=sizeLine then pure () else M.bad
theorem Fin.fits {α:Type} {K:W.Frag} {E:XE} {ι:Io} {H:Hp} {n:Nat} {f:M α} {h:Hh} {P:α->Io->Hp->Prop} (q:Fin K E ι H ((do L3.fits n;f) h) P):n<=sizeLine/\Fin K E ι H (f h) P:=by
 have q':Fin K E ι H (M.bind (L3.fits n) (fun _=>f) h) P:=q
 unfold M.bind L3.fits at q'
 by_cases hn:n<=sizeLine
 ·rw [qa4 hn] at q'
  exact ⟨hn,q'⟩
 ·rw [qa5 hn] at q'
  exact qa0 q'
section
variable {X:Cx} {E:XE} {es:List Expr} {pos:Pos} {fs:Sd->M (List D)}
theorem zmy {K:W.Frag} {ι:Io} {H:Hp} {h:Hh} {ds:List D} {vs:List V} {Q:VK} (hr:zaQ K ι H h) (rl:zam K ι H ds vs) (q:Fin K E ι H ((pure (.tup ds):M D) h) fun d ι' H'=> ∀ v,Rel K ι' H' d v->Q v H') {p:Addr} (hp:H p=none):Q (.ref p) (upd H p (.tup vs)):=
 q ι _ (hr.laidS hp) (hr.laid hp) _ (by
   simp only [Rel]
   exact ⟨p,vs,rfl,⟨zax,hr.nin hp⟩,rl.step (hr.laidS hp)⟩)
theorem zmM {K:W.Frag} {ι:Io} {H:Hp} {h:Hh} {ds:List D} {vs:List V} {Q:VK} (hr:zaQ K ι H h) (rl:zam K ι H ds vs) (q:Fin K E ι H ((pure (.lst ds):M D) h) fun d ι' H'=> ∀ v,Rel K ι' H' d v->Q v H') {p:Addr} (hp:H p=none):Q (.ref p) (upd H p (.lst vs)):=
 q ι _ (hr.laidS hp) (hr.laid hp) _ (by
   simp only [Rel]
   exact ⟨p,vs,rfl,⟨zax,hr.nin hp⟩,rl.step (hr.laidS hp)⟩)
noncomputable def zc2 (ds:List D):M D:=fun h=> .ok (.cel h.length) (h++[.lst ds])
theorem zp5 {K:W.Frag} {ι:Io} {H:Hp} {h:Hh} {c0:C} {o0:HO} {Q:VK} (hr:zaQ K ι H h) (co:CO K ι H c0 o0) (q:Fin K E ι H (.ok (.cel h.length) (h++[c0])) fun d ι' H'=> ∀ v,Rel K ι' H' d v->Q v H') {p:Addr} (hp:H p=none):Q (.ref p) (upd H p o0):=by
 have hlen:=hr.len
 have nh:=hr.nin hp
 have st:za6 ι H ⟨ι.c++[some p],ι.x⟩ (upd H p o0):=by
  refine ⟨fun n o h=> .inl ?_,fun a h=> ?_,rfl,fun a ha=>zas fun z=>nh (.inr (z▸ha)),fun b o' h _=>by rw [zas (zaH h hp)];exact h⟩
  ·show (ι.c++[some p])[n]? = _
   rw [qad (qac.mp h).1];exact h
  ·rcases qaK.mp h with h | h
   ·exact .inl h
   ·simp at h;subst h;exact .inr hp
 have at_: ∀ (n:Nat) (a:Addr),(ι.c++[some p])[n]? = some (some a)->(ι.c[n]? = some (some a))\/(n=ι.c.length/\a=p):=fun n a h=>by
  by_cases hl:n<ι.c.length
  ·rw [qad hl] at h;exact .inl h
  ·rw [qaa (by omega)] at h
   have:n - ι.c.length=0:=by
    cases z:n - ι.c.length with
    | zero=>rfl
    | succ k=>rw [z] at h;simp at h
   rw [this] at h
   simp at h
   exact .inr ⟨by omega,h.symm⟩
 refine q _ _ st ⟨?_,fun m n a h1 h2=> ?_,fun n a c h1 h2=> ?_,fun n h1=> ?_,fun a ha=>⟨?_,fun z=> ?_⟩⟩ _ ?_
 ·show (h++[c0]).length=(ι.c++[some p]).length
  rw [qav,qav,hlen];rfl
 ·rcases at_ m a h1 with z1 | ⟨z1,z1'⟩<;>rcases at_ n a h2 with z2 | ⟨z2,z2'⟩
  ·exact hr.inj m n a z1 z2
  ·subst z2';exact absurd (.inl (List.mem_of_getElem? z1)) nh
  ·subst z1';exact absurd (.inl (List.mem_of_getElem? z2)) nh
  ·rw [z1,z2]
 ·rcases at_ n a h1 with z1 | ⟨z1,z1'⟩
  ·rw [qad (by rw [hlen];exact (qac.mp z1).1)] at h2
   obtain ⟨o',e2,e3⟩:=hr.at_ n a c z1 h2
   exact ⟨o',by rw [zas (zaH e2 hp)];exact e2,e3.pass st.pass⟩
  ·subst z1 z1'
   rw [<- hlen,qaa (qaV _)] at h2
   simp at h2
   subst h2
   exact ⟨o0,zax,co.pass st.pass⟩
 ·have h1:(ι.c++[some p])[n]? = some none:=h1
  by_cases hl:n<ι.c.length
  ·rw [qad hl] at h1
   rw [qad (by rw [hlen];exact hl)]
   exact hr.dead n h1
  ·rw [qaa (by omega)] at h1
   cases z:n - ι.c.length with
   | zero=>rw [z] at h1;simp at h1
   | succ k=>rw [z] at h1;simp at h1
 ·rw [zas (show a≠p from fun z=>nh (.inr (z▸ha)))]
  exact (hr.hidt a ha).1
 ·rcases qaK.mp z with z | z
  ·exact (hr.hidt a ha).2 z
  ·simp at z;subst z;exact nh (.inr ha)
 ·simp only [Rel]
  refine ⟨p,rfl,.inl ?_⟩
  show (ι.c++[some p])[h.length]? = _
  rw [hlen,qaa (qaV _)]
  simp
theorem zsj {K:W.Frag} {ι:Io} {H:Hp} {h:Hh} {ds:List D} {vs:List V} {Q:VK} (hr:zaQ K ι H h) (rl:zam K ι H ds vs) (q:Fin K E ι H (zc2 ds h) fun d ι' H'=> ∀ v,Rel K ι' H' d v->Q v H') {p:Addr} (hp:H p=none):Q (.ref p) (upd H p (.lst vs)):=
 zp5 hr (c0:= .lst ds) ⟨vs,rfl,rl⟩ q hp
theorem zoN {x1} (h:SA X E es fs):SE X E (.Tuple es x1 pos) (fun sd=>do let ds<-fs sd;fits ds.length;pure (.tup ds)):=by
 refine PE.imp (zqA h) fun σ H Q ⟨ι,h,sd,L,hh,q⟩=>⟨ι,h,sd,L,hh,Fin.bind q fun ds h1 ι1 H1 e1 s1 hr1 q1 vs rvs=> ?_⟩
 obtain ⟨z,q2⟩:=Fin.fits q1
 exact ⟨by rw [<- rvs.length];exact z,fun p hp=>zmy hr1 rvs q2 hp⟩
theorem zql (h:SA X E es fs):SE X E (.List es pos) (fun sd=>do let ds<-fs sd;fits ds.length;pure (.lst ds)):=by
 refine PE.imp (zma h) fun σ H Q ⟨ι,h,sd,L,hh,q⟩=>⟨ι,h,sd,L,hh,Fin.bind q fun ds h1 ι1 H1 e1 s1 hr1 q1 vs rvs=> ?_⟩
 obtain ⟨z,q2⟩:=Fin.fits q1
 exact ⟨by rw [<- rvs.length];exact z,fun p hp=>zmM hr1 rvs q2 hp⟩
theorem zov (h:SA X E es fs):SE X E (.List es pos) (fun sd=>do let ds<-fs sd;fits ds.length;zc2 ds):=by
 refine PE.imp (zma h) fun σ H Q ⟨ι,h,sd,L,hh,q⟩=>⟨ι,h,sd,L,hh,Fin.bind q fun ds h1 ι1 H1 e1 s1 hr1 q1 vs rvs=> ?_⟩
 obtain ⟨z,q2⟩:=Fin.fits q1
 exact ⟨by rw [<- rvs.length];exact z,fun p hp=>zsj hr1 rvs q2 hp⟩
end
inductive Out where
 | nx (sd:Sd) | rt (d:D) | bk (sd:Sd) | ct (sd:Sd)
noncomputable def zfp (K:W.Frag) (D0:zmC):Out->Io->Hp->Prop
 | .nx sd',ι',H'=> ∀ σ',zbJ K ι' H' sd' σ'->D0.nx σ' H'
 | .rt d,ι',H'=> ∀ v,Rel K ι' H' d v->D0.rt v H'
 | .bk sd',ι',H'=> ∀ σ',zbJ K ι' H' sd' σ'->D0.bk σ' H'
 | .ct sd',ι',H'=> ∀ σ',zbJ K ι' H' sd' σ'->D0.ct σ' H'
noncomputable def zsa (K:W.Frag) (E:XE) (G:Sd->M Out):TS:=fun D0 σ H=> ∃ ι h sd,zbJ K ι H sd σ/\zaQ K ι H h/\Fin K E ι H (G sd h) (zfp K D0)
noncomputable abbrev SS (X:Cx) (E:XE) (st:Stmt) (G:Sd->M Out):Prop:=PS X st (zsa X.K E G)
noncomputable abbrev SSs (X:Cx) (E:XE) (st:List Stmt) (G:Sd->M Out):Prop:=PSs X st (zsa X.K E G)
noncomputable def andThen (o:Out) (g:Sd->M Out):M Out:=match o with
 | .nx sd=>g sd
 | o=>pure o
section
variable {X:Cx} {E:XE} {pos:Pos}
theorem zoH:SSs X E [] (fun sd=>pure (.nx sd)):=PSs.imp znL fun D0 σ H ⟨ι,h,sd,L,hh,q⟩=>Fin.out hh q σ L
theorem znG {st:Stmt} {rest:List Stmt} {g g':Sd->M Out} (h1:SS X E st g) (h2:SSs X E rest g'):SSs X E (st::rest) (fun sd=>do let o<-g sd;andThen o g'):=by
 refine PSs.imp (zlt h1 h2) fun D0 σ H ⟨ι,h,sd,L,hh,q⟩=>⟨ι,h,sd,L,hh,Fin.bind q fun o h1 ι1 H1 e1 s1 hr1 q1=> ?_⟩
 cases o with
 | nx sd'=>exact fun σ' L'=>⟨ι1,h1,sd',L',hr1,q1⟩
 | rt d=>exact Fin.out (E:=E) (P:=zfp X.K D0) hr1 q1
 | bk sd'=>exact Fin.out (E:=E) (P:=zfp X.K D0) hr1 q1
 | ct sd'=>exact Fin.out (E:=E) (P:=zfp X.K D0) hr1 q1
theorem zqj {st:Stmt} {g:Sd->M Out} (h1:SS X E st g):SSs X E [st] g:=zmW h1
theorem zqd {e:Expr} {f:Sd->M D} (he:SE X E e f) (hs:swapsWith e none pos.line X.env=pure false:=by rfl):SS X E (.Expr e pos) (fun sd=>do let _<-f sd;pure (.nx sd)):=by
 refine PS.imp (zn9 he hs) fun D0 σ H ⟨ι,h,sd,L,hh,q⟩=>⟨ι,h,sd,L,hh,Fin.bind q fun d h1 ι1 H1 e1 s1 hr1 q1 v rv=> ?_⟩
 exact Fin.out hr1 q1 σ (L.step s1)
theorem zrI {e:Expr} {f:Sd->M D} (he:SE X E e f):SS X E (.Return (some e) pos) (fun sd=>do let d<-f sd;pure (.rt d)):=by
 refine PS.imp (zoE he) fun D0 σ H ⟨ι,h,sd,L,hh,q⟩=>⟨ι,h,sd,L,hh,Fin.bind q fun d h1 ι1 H1 e1 s1 hr1 q1 v rv=> ?_⟩
 exact Fin.out hr1 q1 v rv
theorem zsE {c:Expr} {a b:List Stmt} {t:Sd->M Bool} {g g':Sd->M Out} (hc:ST X E c t) (ha:SSs X E a g) (hb:SSs X E b g'):SS X E (.If c a b pos) (fun sd=>do let c<-t sd;if c=true then g sd else g' sd):=by
 refine PS.imp (zq3 hc ha hb) fun D0 σ H ⟨ι,h,sd,L,hh,q⟩=>⟨ι,h,sd,L,hh,Fin.bind q fun c h1 ι1 H1 e1 s1 hr1 q1=> ?_⟩
 cases c with
 | true=>exact zqy ⟨ι1,h1,sd,L.step s1,hr1,q1⟩
 | false=>exact zqK ⟨ι1,h1,sd,L.step s1,hr1,q1⟩
noncomputable def zp4 (K:W.Frag) (E:XE) (g:D->Sd->M Sd):TG:=fun v σ H Q=> ∃ ι h sd d,zbJ K ι H sd σ/\zaQ K ι H h/\Rel K ι H d v/\Fin K E ι H (g d sd h) fun sd' ι' H'=> ∀ σ',zbJ K ι' H' sd' σ'->Q σ' H'
noncomputable def zq1 (K:W.Frag) (E:XE) (g:List D->Sd->M Sd):TGs:=fun vs σ H Q=> ∃ ι h sd ds,zbJ K ι H sd σ/\zaQ K ι H h/\zam K ι H ds vs/\Fin K E ι H (g ds sd h) fun sd' ι' H'=> ∀ σ',zbJ K ι' H' sd' σ'->Q σ' H'
noncomputable abbrev SG (X:Cx) (E:XE) (tg:Expr) (g:D->Sd->M Sd):Prop:=PG X tg (zp4 X.K E g)
noncomputable abbrev SGs (X:Cx) (E:XE) (tgs:List Expr) (g:List D->Sd->M Sd):Prop:=PGs X tgs (zq1 X.K E g)
noncomputable def za1 (i:Nat):D->Sd->M Sd:=fun d sd=>pure (sd.set i (some d))
theorem znc (i:Nat) {x:Str} (hN:X.N.Nodup) (hi:X.N[i]? = some x) (hx:Loc X.env.scope x) (hf:X.fn x=true\/X.env.scope.names.lookup x=some .local):SG X E (.Name x pos) (za1 i):=by
 refine PG.imp (zoh hN hi hx hf) fun v σ H Q ⟨ι,h,sd,d,L,hh,r,q⟩=> ?_
 exact Fin.out hh q _ (L.set r i)
theorem PGs.imp {tgs:List Expr} {t t':TGs} (h:PGs X tgs t) (m: ∀ v σ H Q,t' v σ H Q->t v σ H Q):PGs X tgs t':=fun pins s σ H v u Q I r q=>h pins s σ H v u Q I r (m _ _ _ _ q)
noncomputable def zc3:List D->Sd->M Sd:=fun ds sd=>match ds with | []=>pure sd | _=>M.bad
noncomputable def zaR (g:D->Sd->M Sd) (gs:List D->Sd->M Sd):List D->Sd->M Sd:=fun ds sd=>match ds with
 | []=>M.bad
 | d::r=>do let sd1<-g d sd;gs r sd1
theorem zm5:SGs X E [] zc3:=by
 refine PGs.imp zop fun v σ H Q ⟨ι,h,sd,ds,L,hh,r,q⟩=> ?_
 cases ds with
 | nil=>simp only [zam] at r;exact ⟨r,Fin.out hh q _ L⟩
 | cons d r=>exact qa0 q
theorem zlR {e:Expr} {es:List Expr} {g:D->Sd->M Sd} {gs:List D->Sd->M Sd} (h1:SG X E e g) (h2:SGs X E es gs)
  (hs:(assignEach (e::es) X.env).map (·.2)=assign e X.env::(assignEach es X.env).map (·.2):=by rfl):SGs X E (e::es) (zaR g gs):=by
 refine PGs.imp (zk4 h1 h2 hs) fun v σ H Q ⟨ι,h,sd,ds,L,hh,r,q⟩=> ?_
 cases ds with
 | nil=>exact qa0 q
 | cons d ds=>
  simp only [zam] at r
  obtain ⟨v1,vr,rfl,r1,r2⟩:=r
  refine ⟨v1,vr,rfl,ι,h,sd,d,L,hh,r1,Fin.bind q fun sd1 h1 ι1 H1 e1 s1 hr1 q1 σ1 L1=> ?_⟩
  exact ⟨ι1,h1,sd1,ds,L1,hr1,r2.step s1,q1⟩
noncomputable def zcV (n:Nat) (gs:List D->Sd->M Sd):D->Sd->M Sd:=fun d sd=>match d with
 | .tup ds=>if ds.length=n then gs ds sd else M.bad
 | _=>M.bad
theorem zcn {K:W.Frag} {ι:Io} {H:Hp} {ds:List D} {v:V} (h:Rel K ι H (.tup ds) v): ∃ a vs,v= .ref a/\SqT K H a vs/\zam K ι H ds vs:=by
 simp only [Rel] at h
 obtain ⟨a,vs,e,h1,h2⟩:=h
 exact ⟨a,vs,e,.inl (.inl h1.1),h2⟩
theorem zjB {K:W.Frag} {ι:Io} {H:Hp} {ds:List D} {v:V} (h:Rel K ι H (.scr ds) v): ∃ a vs,v= .ref a/\SqL K H a vs/\zam K ι H ds vs:=by
 simp only [Rel] at h
 obtain ⟨a,vs,e,h1,h2⟩:=h
 refine ⟨a,vs,e,?_,h2⟩
 rcases h1 with h1 | h1
 ·exact .inl h1.1
 ·rcases h1 with h1 | h1
  ·rcases h1 with h1 | ⟨o,h1⟩<;>cases h1
  ·exact .inr h1
theorem zdU {K:W.Frag} {ι:Io} {H:Hp} {ds:List D} {v:V} (h:Rel K ι H (.lst ds) v): ∃ a vs,v= .ref a/\SqL K H a vs/\zam K ι H ds vs:=by
 simp only [Rel] at h
 obtain ⟨a,vs,e,h1,h2⟩:=h
 exact ⟨a,vs,e,.inl (.inl h1.1),h2⟩
theorem zoU {es:List Expr} {k:Nat} {gs:List D->Sd->M Sd} {n:Nat} (hc:X.calm=true) (h:SGs X E es gs)
  (hn:(assignEach es X.env).length=n:=by rfl) (hst:(assignEach es X.env).findIdx? (·.1)=none:=by rfl):SG X E (.Tuple es k pos) (zcV n gs):=by
 refine PG.imp (zqF hc h hn hst) fun v σ H Q ⟨ι,h,sd,d,L,hh,r,q⟩=> ?_
 cases d with
 | tup ds=>
  obtain ⟨a,vs,e,h1,h2⟩:=zcn r
  have q:Fin X.K E ι H ((if ds.length=n then gs ds sd else M.bad) h) _:=q
  by_cases hl:ds.length=n
  ·rw [qa4 hl] at q
   exact ⟨a,vs,e,h1,by rw [<- h2.length];exact hl,ι,h,sd,ds,L,hh,h2,q⟩
  ·rw [qa5 hl] at q
   exact qa0 q
 | _=>exact qa0 q
theorem zrB {tg e:Expr} {f:Sd->M D} {g:D->Sd->M Sd} (he:SE X E e f) (hg:SG X E tg g) (hs:swapsWithSole [tg] e pos.line X.env=pure false:=by rfl) (hw:swappedStores [tg] e X.env=pure none:=by rfl)
  (h1:(assignEach [tg] X.env).map (·.2)=[assign tg X.env]:=by rfl):SS X E (.Assign [tg] e pos) (fun sd=>do let d<-f sd;let sd'<-g d sd;pure (.nx sd')):=by
 refine PS.imp (zpr he hg hs hw h1) fun D0 σ H ⟨ι,h,sd,L,hh,q⟩=>⟨ι,h,sd,L,hh,Fin.bind q fun d h1 ι1 H1 e1 s1 hr1 q1 v rv=> ?_⟩
 exact ⟨ι1,h1,sd,d,L.step s1,hr1,rv,Fin.bind q1 fun sd' h2 ι2 H2 e2 s2 hr2 q2=>Fin.out hr2 q2⟩
theorem zq7 (i:Nat) {x:Str} {e:Expr} {f:Sd->M D} {pos':Pos} (hN:X.N.Nodup) (hi:X.N[i]? = some x) (hx:Loc X.env.scope x) (hf:X.fn x=true\/X.env.scope.names.lookup x=some .local) (he:SE X E e f) (hs:swapsWith e (some (.Name x pos')) pos.line X.env=pure false:=by rfl):
  SS X E (.Assign [.Name x pos'] e pos) (fun sd=>do let d<-f sd;pure (.nx (sd.set i (some d)))):=by
 refine PS.imp (zpp hN hi hx he hs hf) fun D0 σ H ⟨ι,h,sd,L,hh,q⟩=>⟨ι,h,sd,L,hh,Fin.bind q fun d h1 ι1 H1 e1 s1 hr1 q1 v rv=> ?_⟩
 exact Fin.out hr1 q1 _ ((L.step s1).set rv i)
def zqS (H H2:Hp):Prop:=H2=H\/ ∃ q vs,H q=none/\H2=upd H q (.tup vs)
theorem zqS.step {K:W.Frag} {ι:Io} {H H2:Hp} {h:Hh} (g:zqS H H2) (hr:zaQ K ι H h):za6 ι H ι H2/\zaQ K ι H2 h:=by
 rcases g with e | ⟨q,vs,hq,e⟩
 ·subst e;exact ⟨za6.refl _ _,hr⟩
 ·subst e;exact ⟨hr.laidS hq,hr.laid hq⟩
structure zoA (K:W.Frag) (ι:Io) (H:Hp) (J:It) (ds:List D):Prop where
 go: ∀ ι' H' (i:Nat),Pass ι H ι' H'->i<ds.length->J.go i H'
 yld: ∀ ι' H' h (i:Nat) x H2,Pass ι H ι' H'->zaQ K ι' H' h->i<ds.length->J.yld i H' x H2->zqS H' H2/\ ∃ d,ds[i]? = some d/\Rel K ι' H2 d x
 stop: ∀ ι' H',Pass ι H ι' H'->J.stop ds.length H'
noncomputable def zsd (K:W.Frag) (E:XE) (f:Sd->M (List D)):TI:=fun σ H Q=> ∃ ι h sd,zbJ K ι H sd σ/\zaQ K ι H h/\Fin K E ι H (f sd h) fun ds ι' H'=> ∀ J,zoA K ι' H' J ds->Q J H'
noncomputable abbrev SI (X:Cx) (E:XE) (tg iter:Expr) (f:Sd->M (List D)):Prop:=PI X tg iter (zsd X.K E f)
noncomputable def zf8:D->M (List D)
 | .tup ds=>pure ds
 | .lst ds=>pure ds
 | _=>M.bad
theorem zli {K:W.Frag} {ι:Io} {H:Hp} {a:Addr} {vs:List V} {ds:List D} (h: ∀ ι' H',Pass ι H ι' H'->SqT K H' a vs) (rl:zam K ι H ds vs):zoA K ι H (Itt K a) ds where
 go:=fun ι' H' i s hi=>⟨vs,vs[i]'(by rw [<- rl.length];exact hi),h ι' H' s,by simp⟩
 yld:=fun ι' H' _ i x H2 s _ hi ⟨e,y⟩=>by
  subst e
  have hx:=y vs (h ι' _ s)
  obtain ⟨d,e1,e2⟩:=rl.getV hx
  exact ⟨.inl rfl,d,e1,e2.pass s⟩
 stop:=fun ι' H' s=>⟨vs,h ι' H' s,by rw [rl.length];exact qaV _⟩
theorem zlT {K:W.Frag} {ι:Io} {H:Hp} {a:Addr} {vs:List V} {ds:List D} (h: ∀ ι' H',Pass ι H ι' H'->SqL K H' a vs) (rl:zam K ι H ds vs):zoA K ι H (Itl K a) ds where
 go:=fun ι' H' i s hi=>⟨vs,vs[i]'(by rw [<- rl.length];exact hi),h ι' H' s,by simp⟩
 yld:=fun ι' H' _ i x H2 s _ hi ⟨e,y⟩=>by
  subst e
  have hx:=y vs (h ι' _ s)
  obtain ⟨d,e1,e2⟩:=rl.getV hx
  exact ⟨.inl rfl,d,e1,e2.pass s⟩
 stop:=fun ι' H' s=>⟨vs,h ι' H' s,by rw [rl.length];exact qaV _⟩
theorem Pass.refl (ι:Io) (H:Hp):Pass ι H ι H:=(za6.refl ι H).pass
theorem zjC {K:W.Frag} {ι:Io} {H:Hp} {ds:List D} {v:V} (h:Rel K ι H (.tup ds) v): ∃ a vs,v= .ref a/\(∀ ι' H',Pass ι H ι' H'->SqT K H' a vs)/\zam K ι H ds vs:=by
 simp only [Rel] at h
 obtain ⟨a,vs,e,h1,h2⟩:=h
 exact ⟨a,vs,e,fun ι' H' s=> .inl (.inl (s.keep _ _ h1.1 h1.2).1),h2⟩
theorem znq {K:W.Frag} {ι:Io} {H:Hp} {ds:List D} {v:V} (h:Rel K ι H (.lst ds) v): ∃ a vs,v= .ref a/\(∀ ι' H',Pass ι H ι' H'->SqL K H' a vs)/\zam K ι H ds vs:=by
 simp only [Rel] at h
 obtain ⟨a,vs,e,h1,h2⟩:=h
 exact ⟨a,vs,e,fun ι' H' s=> .inl (.inl (s.keep _ _ h1.1 h1.2).1),h2⟩
end
end L3
namespace L2
open PySem PySem.Spec PyProof.Rows
noncomputable def zsh (K:W.Frag) (tl:TE):TI:=fun σ H R=>tl σ H fun x H1=> ∃ a,x= .ref a/\(((∃ xs,SqL K H1 a xs)/\R (Itl K a) H1)\/((∃ xs,SqT K H1 a xs)/\R (Itt K a) H1))
theorem zkx {X:Cx} {tg:Expr} {l:Expr} {tl:TE} (hl:PE X l tl):PI X tg l (zsh X.K tl):=by
 intro pins s σ H R I h
 refine thn (hl pins s σ H _ I h) fun v s1 ⟨x,H1,I1,r1,q1⟩=> ?_
 obtain ⟨a,e,⟨⟨xs,hq⟩,q⟩ | ⟨⟨xs,hq⟩,q⟩⟩:=q1
 ·subst e
  cases r1
  obtain ⟨its,rv,p,hz⟩:=I1.list hq
  refine wpAny_pyIter_list p.isList ?_
  refine ⟨s1.heap.objs.size,[s1.heap.objs.size],_,_,H1,rfl,I1.kept (t':=s1.toks) fun b o e=>qag _ e,zkD a _,⟨_,qar _ rfl,rfl,rfl⟩,fun b hb=> ?_,q⟩
  have e:b=s1.heap.objs.size:=by simpa using hb
  subst e
  exact I1.fpOk (qaV _) (I1.hok.fresh (qaV _))
 ·subst e
  cases r1
  obtain ⟨its,rv,p,hz⟩:=I1.tuple hq
  refine wpAny_pyIter_tuple (show s1.heap.IsTuple a its.toArray from p) ?_
  refine ⟨s1.heap.objs.size,[s1.heap.objs.size],_,_,H1,rfl,I1.kept (t':=s1.toks) fun b o e=>qag _ e,zij a _,⟨_,qar _ rfl,rfl,rfl⟩,fun b hb=> ?_,q⟩
  have e:b=s1.heap.objs.size:=by simpa using hb
  subst e
  exact I1.fpOk (qaV _) (I1.hok.fresh (qaV _))
end L2
namespace L3
open PySem PySem.Spec PyProof.Rows L2
section
variable {X:Cx} {E:XE} {pos:Pos}
theorem zoG {tg e:Expr} {f:Sd->M D} (he:SE X E e f):SI X E tg e (fun sd=>do let d<-f sd;zf8 d):=by
 refine PI.imp (zkx he) fun σ H Q ⟨ι,h,sd,L,hh,q⟩=>⟨ι,h,sd,L,hh,Fin.bind q fun d h1 ι1 H1 e1 s1 hr1 q1 v rv=> ?_⟩
 cases d with
 | lst ds=>
  obtain ⟨a,vs,e,h1',h2⟩:=znq rv
  exact ⟨a,e,.inl ⟨⟨vs,h1' _ _ (Pass.refl _ _)⟩,Fin.out hr1 q1 _ (zlT h1' h2)⟩⟩
 | tup ds=>
  obtain ⟨a,vs,e,h1',h2⟩:=zjC rv
  exact ⟨a,e,.inr ⟨⟨vs,h1' _ _ (Pass.refl _ _)⟩,Fin.out hr1 q1 _ (zli h1' h2)⟩⟩
 | _=>exact qa0 q1
noncomputable def zcP (lo:Int) (n:Nat):List D:=(List.range n).map fun (k:Nat)=>D.int (lo+(k:Int))
theorem zlY {K:W.Frag} {ι:Io} {H:Hp} {lo:Int} {n:Nat}:zoA K ι H (Itr lo n) (zcP lo n) where
 go:=fun ι' H' i s hi=>by show i<n;simpa [zcP] using hi
 yld:=fun ι' H' _ i x H2 s _ hi ⟨e,y⟩=>by
  subst e y
  have hi:i<n:=by simpa [zcP] using hi
  refine ⟨.inl rfl,.int (lo+i),?_,by simp [Rel]⟩
  simp [zcP,hi]
 stop:=fun ι' H' s=>by
  show n<=(zcP lo n).length
  simp [zcP]
noncomputable def zcU (j:Int):Bool:=decide (-(2^62)<=j) && decide (j<2^62)
noncomputable def zj5:List D->M (List D)
 | [.int j]=>if zcU j=true then pure (zcP 0 j.toNat) else M.bad
 | _=>M.bad
theorem zep {j:Int} (h:zcU j=true): -(2^62)<=j/\j<2^62:=by
 unfold zcU at h
 simpa using h
theorem znz {tg a:Expr} {p:Pos} {fs:Sd->M (List D)} (hg:Gl X "range") (hm:X.mg "range"=none) (ha:SA X E [a] fs) (hs:starEach [a] X.env=[(false,eval a X.env)]:=by rfl):
  SI X E tg (.Call (.Name "range" p) [a] [] pos) (fun sd=>do let ds<-fs sd;zj5 ds):=by
 refine PI.imp (zj1 hg hm ha hs) fun σ H Q ⟨ι,h,sd,L,hh,q⟩=>⟨ι,h,sd,L,hh,Fin.bind q fun ds h1 ι1 H1 e1 s1 hr1 q1 vs rv=> ?_⟩
 match ds,rv,q1 with
 | [.int j],rv,q1=>
  simp only [zam,Rel] at rv
  obtain ⟨v,r,rfl,rfl,rfl⟩:=rv
  have q1:Fin X.K E ι1 H1 ((if zcU j=true then (pure (zcP 0 j.toNat):M (List D)) else M.bad) h1) _:=q1
  by_cases hj:zcU j=true
  ·rw [qa4 hj] at q1
   exact ⟨j,rfl,(zep hj).1,(zep hj).2,Fin.out hr1 q1 _ zlY⟩
  ·rw [qa5 hj] at q1
   exact qa0 q1
 | [],_,q1=>exact qa0 q1
 | .non::_,_,q1=>exact qa0 q1
 | .bl _::_,_,q1=>exact qa0 q1
 | .str _::_,_,q1=>exact qa0 q1
 | .tup _::_,_,q1=>exact qa0 q1
 | .lst _::_,_,q1=>exact qa0 q1
 | .cel _::_,_,q1=>exact qa0 q1
 | .set _::_,_,q1=>exact qa0 q1
 | .dct::_,_,q1=>exact qa0 q1
 | .fn _::_,_,q1=>exact qa0 q1
 | .scr _::_,_,q1=>exact qa0 q1
 | .exn _::_,_,q1=>exact qa0 q1
 | .int _::_::_,_,q1=>exact qa0 q1
noncomputable def zbd (body:D->Sd->M Out):List D->Sd->M Out
 | [],sd=>pure (.nx sd)
 | x::r,sd=>do
  let o<-body x sd
  match o with
  | .nx sd'=>zbd body r sd'
  | .ct sd'=>zbd body r sd'
  | .bk sd'=>pure (.nx sd')
  | .rt d=>pure (.rt d)
theorem zrt {tg iter:Expr} {body:List Stmt} {fi:Sd->M (List D)} {g:D->Sd->M Sd} {gb:Sd->M Out} (hc:X.calm=true) (hp:PassesOwn (model X.prog X.w) X.A X.env X.xe) (hi:SI X E tg iter fi) (hg:SG X E tg g) (hb:SSs X E body gb)
  (hs: ∀ x,foldedSetIterable iter X.env x=pure x:=by intro _;rfl):SS X E (.For tg iter body [] pos) (fun sd=>do let ds<-fi sd;zbd (fun x sd=>do let sd1<-g x sd;gb sd1) ds sd):=by
 refine PS.imp (zmt hp hc hi hg hb hs) fun D0 σ H ⟨ι,h,sd,L,hh,q⟩=>⟨ι,h,sd,L,hh,Fin.bind q fun ds h1 ι1 H1 e1 s1 hr1 q1 J ok=> ?_⟩
 refine ⟨fun i m σ' H'=>m=ds.length - i/\i<=ds.length/\ ∃ ι' h' sd',za6 ι1 H1 ι' H'/\zbJ X.K ι' H' sd' σ'/\zaQ X.K ι' H' h'/\Fin X.K E ι' H' (zbd (fun x sd=>do let sd1<-g x sd;gb sd1) (ds.drop i) sd' h') (zfp X.K D0),
   ⟨_,rfl,Nat.zero_le _,ι1,h1,sd,za6.refl _ _,L.step s1,hr1,by simpa using q1⟩,?_⟩
 rintro i m σ2 H2 ⟨rfl,hi2,ι2,h2,sd2,s2,L2,hr2,q2⟩
 by_cases hlt:i<ds.length
 ·right
  refine ⟨ok.go ι2 H2 i s2.pass hlt,fun σ' H'=>i+1<=ds.length/\ ∃ ι' h' sd',za6 ι1 H1 ι' H'/\zbJ X.K ι' H' sd' σ'/\zaQ X.K ι' H' h'/\Fin X.K E ι' H' (zbd (fun x sd=>do let sd1<-g x sd;gb sd1) (ds.drop (i+1)) sd' h') (zfp X.K D0),
    fun σ' H' p=>⟨ds.length - (i+1),by omega,rfl,p.1,p.2⟩,fun x H3 y=> ?_⟩
  obtain ⟨gr,d,ed,rd⟩:=ok.yld ι2 H2 h2 i x H3 s2.pass hr2 hlt y
  obtain ⟨s3,hr3⟩:=gr.step hr2
  have edr:ds.drop i=d::ds.drop (i+1):=by
   rw [qae hlt]
   rw [qaf hlt] at ed
   rw [Option.some.inj ed]
  rw [edr] at q2
  have q3:Fin X.K E ι2 H3 (zbd (fun x sd=>do let sd1<-g x sd;gb sd1) (d::ds.drop (i+1)) sd2 h2) (zfp X.K D0):=Fin.step s3 q2
  refine ⟨ι2,h2,sd2,d,L2.step s3,hr3,rd,?_⟩
  have q5:Fin X.K E ι2 H3 ((g d sd2>>=fun sd1=>(gb sd1>>=fun o=>(match o with
    | .nx sd'=>zbd (fun x sd=>do let sd1<-g x sd;gb sd1) (ds.drop (i+1)) sd'
    | .ct sd'=>zbd (fun x sd=>do let sd1<-g x sd;gb sd1) (ds.drop (i+1)) sd'
    | .bk sd'=>pure (.nx sd')
    | .rt d=>pure (.rt d):M Out))) h2) (zfp X.K D0):=by
   have e:(zbd (fun x sd=>do let sd1<-g x sd;gb sd1) (d::ds.drop (i+1)) sd2 h2)=((g d sd2>>=fun sd1=>(gb sd1>>=fun o=>(match o with
     | .nx sd'=>zbd (fun x sd=>do let sd1<-g x sd;gb sd1) (ds.drop (i+1)) sd'
     | .ct sd'=>zbd (fun x sd=>do let sd1<-g x sd;gb sd1) (ds.drop (i+1)) sd'
     | .bk sd'=>pure (.nx sd')
     | .rt d=>pure (.rt d):M Out))) h2):=by
    show M.bind (M.bind (g d sd2) gb) _ h2=M.bind (g d sd2) _ h2
    unfold M.bind
    cases g d sd2 h2<;>rfl
   rw [<- e]
   exact q3
  refine Fin.bind q5 fun sd6 h6 ι6 H6 e6 s6 hr6 q6 σ6 L6=> ?_
  refine ⟨ι6,h6,sd6,L6,hr6,Fin.bind q6 fun o h7 ι7 H7 e7 s7 hr7 q7=> ?_⟩
  have st7:za6 ι1 H1 ι7 H7:=((s2.trans s3).trans s6).trans s7
  cases o with
  | nx sd'=>exact fun σ' L'=>⟨hlt,ι7,h7,sd',st7,L',hr7,q7⟩
  | ct sd'=>exact fun σ' L'=>⟨hlt,ι7,h7,sd',st7,L',hr7,q7⟩
  | bk sd'=>exact fun σ' L'=>Fin.out (E:=E) (P:=zfp X.K D0) hr7 q7 σ' L'
  | rt d=>exact fun v rv=>Fin.out (E:=E) (P:=zfp X.K D0) hr7 q7 v rv
 ·left
  have e:i=ds.length:=by omega
  subst e
  refine ⟨ok.stop ι2 H2 s2.pass,?_⟩
  rw [List.drop_length] at q2
  exact Fin.out (E:=E) (P:=zfp X.K D0) hr2 q2 σ2 L2
noncomputable def zbo (f:D->M (Option D)):List D->M (List D)
 | []=>pure []
 | x::r=>do
  let o<-f x
  let ys<-zbo f r
  pure (match o with | some y=>y::ys | none=>ys)
noncomputable def zaY (g:D->Sd->M Sd) (tc:Sd->M Bool) (te:Sd->M D) (sd:Sd) (x:D):M (Option D):=do
 let sd1<-g x sd
 let c<-tc sd1
 if c=true then do
  let y<-te sd1
  pure (some y)
 else pure none
end
noncomputable def Io.hide (ι:Io) (p:Addr):Io:=⟨ι.c,p::ι.x⟩
noncomputable def Io.show (ι:Io):Io:=⟨ι.c,ι.x.tail⟩
theorem zlp {ι:Io} {a:Addr} (h:ι.show.Has a):ι.Has a:=h.imp id List.mem_of_mem_tail
section
variable {K:W.Frag} {ι ι':Io} {H H':Hp} {p:Addr} {o:HO} {h:Hh}
theorem zen (hp:H p=none):Pass ι H (ι.hide p) (upd H p o):=⟨fun _ _ z=> .inl z,fun b o' hb n=>⟨by rw [zas (zaH hb hp)];exact hb,fun z=>by
  rcases z with z | z
  · exact n (.inl z)
  · rcases qaP.mp z with z | z
    · rw [z,hp] at hb;cases hb
    · exact n (.inr z)⟩⟩
theorem zee:Pass ι H ι.show H:=⟨fun _ _ z=> .inl z,fun b o' hb n=>⟨hb,fun z=>n (zlp z)⟩⟩
theorem zdo (hp:p∈ι.x):Pass ι H ι (upd H p o):=⟨fun _ _ z=> .inl z,fun b o' hb n=>⟨by rw [zas (show b≠p from fun z=>n (.inr (z▸hp)))];exact hb,n⟩⟩
theorem zaQ.hide {ws:List V} (hr:zaQ K ι H h) (hp:H p=none):zaQ K (ι.hide p) (upd H p (.lst ws)) h:=
 ⟨hr.len,hr.inj,fun n a c h1 h2=>by
   obtain ⟨o',e2,e3⟩:=hr.at_ n a c h1 h2
   exact ⟨o',by rw [zas (zaH e2 hp)];exact e2,e3.pass (zen hp)⟩,hr.dead,fun a ha=>by
   rcases qaP.mp ha with z | z
   · subst z;exact ⟨⟨ws,zax⟩,fun z=>hr.nin hp (.inl z)⟩
   · refine ⟨?_,(hr.hidt a z).2⟩
     rw [zas (show a≠p from fun w=>hr.nin hp (.inr (w▸z)))]
     exact (hr.hidt a z).1⟩
theorem zaQ.hid {ws:List V} (hr:zaQ K ι H h) (hp:p∈ι.x):zaQ K ι (upd H p (.lst ws)) h:=
 ⟨hr.len,hr.inj,fun n a c h1 h2=>by
   obtain ⟨o',e2,e3⟩:=hr.at_ n a c h1 h2
   have ne:a≠p:=fun z=>(hr.hidt p hp).2 (z▸List.mem_of_getElem? h1)
   exact ⟨o',by rw [zas ne];exact e2,e3.pass (zdo hp)⟩,hr.dead,fun a ha=>by
   refine ⟨?_,(hr.hidt a ha).2⟩
   by_cases z:a=p
   · subst z;exact ⟨ws,zax⟩
   · rw [zas z];exact (hr.hidt a ha).1⟩
theorem zaQ.show (hr:zaQ K ι H h):zaQ K ι.show H h:=
 ⟨hr.len,hr.inj,fun n a c h1 h2=>by
   obtain ⟨o',e2,e3⟩:=hr.at_ n a c h1 h2
   exact ⟨o',e2,e3.pass zee⟩,hr.dead,fun a ha=>hr.hidt a (List.mem_of_mem_tail ha)⟩
theorem zf2 {ι1 ι2:Io} {H1 H2:Hp} (hp:H p=none) (hpx:p∉ι.x) (hx:ι1.x=p::ι.x) (s:za6 ι H ι1.show H1) (t:za6 ι1 H1 ι2 H2):za6 ι H ι2.show (upd H2 p o) where
 old:=fun n q h=>by
  rcases s.old n q h with h | h
  ·exact t.old n q h
  ·rcases t.old n _ h with h | h<;>exact .inr h
 new:=fun a h=>by
  rcases t.new a h with h | h
  ·exact s.new a h
  ·by_cases z:some a∈ι.c
   ·exact .inl z
   ·refine .inr ?_
    cases q:H a with
    | none=>rfl
    | some o=>
     by_cases z':a∈ι.x
     ·rw [s.hidk a z',q] at h;cases h
     ·rw [s.keep a o q (fun w=>w.elim z z')] at h;cases h
 hid:=by
  show ι2.x.tail=ι.x
  rw [t.hid,hx]
  rfl
 hidk:=fun a ha=>by
  have z:a≠p:=fun z=>hpx (z▸ha)
  rw [zas z,t.hidk a (by rw [hx];exact qan _ ha)]
  exact s.hidk a ha
 keep:=fun b q hb n=>by
  have ne:b≠p:=zaH hb hp
  rw [zas ne]
  refine t.keep b q (s.keep b q hb n) fun z=> ?_
  rcases z with z | z
  ·rcases s.new b z with z | z
   ·exact n (.inl z)
   ·rw [hb] at z;cases z
  ·rw [hx] at z
   rcases qaP.mp z with z | z
   ·exact ne z
   ·exact n (.inr z)
theorem za6.shown {ι2:Io} {H2:Hp} {r:List Addr} (hx:ι.x=p::r) (t:za6 ι H ι2 H2):za6 ι.show H ι2.show H2 where
 old:=t.old
 new:=t.new
 hid:=by show ι2.x.tail=ι.x.tail;rw [t.hid]
 hidk:=fun a ha=>t.hidk a (List.mem_of_mem_tail ha)
 keep:=fun b q hb n=>by
  by_cases z:b=p
  ·subst z
   rw [t.hidk b (by rw [hx];exact qau)]
   exact hb
  ·refine t.keep b q hb fun w=> ?_
   rcases w with w | w
   ·exact n (.inl w)
   ·rw [hx] at w
    rcases qaP.mp w with w | w
    ·exact z w
    ·exact n (.inr (by show b∈ι.x.tail;rw [hx];exact w))
theorem Fin.bindB {α β:Type} {E:XE} {m:M α} {f:α->M β} {P:β->Io->Hp->Prop} {P':α->Io->Hp->Prop} {ιb:Io} {Hb:Hp} (q:Fin K E ιb Hb ((m>>=f) h) P)
  (conv: ∀ ι' H' h',za6 ι H ι' H'->zaQ K ι' H' h'-> ∃ ι'',za6 ιb Hb ι'' H'/\zaQ K ι'' H' h')
  (k: ∀ a h' ι' H',m h= .ok a h'->za6 ι H ι' H'->zaQ K ι' H' h'->Fin K E ιb Hb (f a h') P->P' a ι' H'):Fin K E ι H (m h) P':=by
 have q':Fin K E ιb Hb (M.bind m f h) P:=q
 unfold M.bind at q'
 cases e:m h with
 | ok a h'=>
  rw [e] at q'
  intro ι' H' s hr
  exact k a h' ι' H' e s hr q'
 | exc c h'=>
  rw [e] at q'
  intro ι' H' s hr
  obtain ⟨ι'',s2,hr2⟩:=conv ι' H' h' s hr
  exact q' _ _ s2 hr2
 | bad=>rw [e] at q';exact q'
end
noncomputable instance:LawfulMonad M:=LawfulMonad.mk' M
 (id_map:=fun x=>by
   funext h
   show M.bind x (fun a=>M.pure (id a)) h=x h
   unfold M.bind M.pure
   cases x h<;>rfl)
 (pure_bind:=fun x f=>rfl)
 (bind_assoc:=fun x f g=>by
   funext h
   show M.bind (M.bind x f) g h=M.bind x (fun a=>M.bind (f a) g) h
   unfold M.bind
   cases x h<;>rfl)
noncomputable def zal (src:List (Option Nat)) (sd:Sd):Sd:=src.map fun o=>o.bind fun i=>(sd[i]?).join
theorem zbJ.bStart {K:W.Frag} {ι:Io} {H:Hp} {sd:Sd} {σ:L2.St} {src:List (Option Nat)} (h:zbJ K ι H sd σ):zbJ K ι H (zal src sd) (bStart src σ):=by
 refine ⟨by unfold zal L2.bStart;rw [qaH,qaH],fun i d e=> ?_⟩
 unfold zal at e
 unfold L2.bStart
 rw [List.getElem?_map] at e ⊢
 cases z:src[i]? with
 | none=>rw [z] at e;cases e
 | some o=>
  rw [z] at e
  cases o with
  | none=>cases e
  | some j=>
   have e:(sd[j]?).join=some d:=by simpa using e
   cases w:sd[j]? with
   | none=>rw [w] at e;cases e
   | some q=>
    rw [w] at e
    have e:q=some d:=by simpa using e
    subst e
    obtain ⟨v,h1,h2⟩:=h.2 j d w
    exact ⟨v,by simp [h1],h2⟩
def zaF (g:D->Sd->M Sd) (src:List (Option Nat)):Prop:= ∀ x sd h sd1 h1,sd.length=src.length->(∀ (i:Nat),src[i]? = some none->sd[i]? = some none)->g x sd h= .ok sd1 h1->sd1.length=sd.length/\ ∀ (i:Nat) d,src[i]? ≠ some none->sd[i]? = some (some d)->sd1[i]? = some (some d)
def zaW (g:List D->Sd->M Sd) (src:List (Option Nat)):Prop:= ∀ x sd h sd1 h1,g x sd h= .ok sd1 h1->sd1.length=sd.length/\ ∀ (i:Nat) d,src[i]? ≠ some none->sd[i]? = some (some d)->sd1[i]? = some (some d)
theorem zi0 {i:Nat} {src:List (Option Nat)} (h:src[i]? = some none): ∀ x sd h sd1 h1,za1 i x sd h= .ok sd1 h1->sd1.length=sd.length/\ ∀ (j:Nat) d,src[j]? ≠ some none->sd[j]? = some (some d)->sd1[j]? = some (some d):=fun x sd h0 sd1 h1 e=>by
 have e:R.ok (sd.set i (some x)) h0= .ok sd1 h1:=e
 cases e
 refine ⟨qaI,fun j d hj e=> ?_⟩
 rw [qao (show i≠j from fun z=>hj (z▸h))]
 exact e
theorem zaF.name {i:Nat} {src:List (Option Nat)} (h:src[i]? = some none):zaF (za1 i) src:=fun x sd h0 sd1 h1 _ _ e=>zi0 h x sd h0 sd1 h1 e
theorem zaW.nil {src:List (Option Nat)}:zaW zc3 src:=fun x sd h sd1 h1 e=>by
 cases x with
 | nil=>
  have e:R.ok sd h= .ok sd1 h1:=e
  cases e
  exact ⟨rfl,fun _ _ _ z=>z⟩
 | cons _ _=>cases (show R.bad=R.ok sd1 h1 from e)
theorem zaW.cons {i:Nat} {gs:List D->Sd->M Sd} {src:List (Option Nat)} (h:src[i]? = some none) (t:zaW gs src):zaW (zaR (za1 i) gs) src:=fun x sd h0 sd1 h1 e=>by
 cases x with
 | nil=>cases (show R.bad=R.ok sd1 h1 from e)
 | cons d r=>
  have e:gs r (sd.set i (some d)) h0= .ok sd1 h1:=e
  obtain ⟨e1,e2⟩:=t r _ h0 sd1 h1 e
  refine ⟨by rw [e1,qaI],fun j d' hj z=>e2 j d' hj ?_⟩
  rw [qao (show i≠j from fun z=>hj (z▸h))]
  exact z
theorem zaF.tup {n:Nat} {gs:List D->Sd->M Sd} {src:List (Option Nat)} (t:zaW gs src):zaF (zcV n gs) src:=fun x sd h0 sd1 h1 _ _ e=>by
 cases x with
 | tup ds=>
  have e:(if ds.length=n then gs ds sd else M.bad) h0= .ok sd1 h1:=e
  by_cases hl:ds.length=n
  ·rw [qa4 hl] at e;exact t _ _ _ _ _ e
  ·rw [qa5 hl] at e;cases (show R.bad=R.ok sd1 h1 from e)
 | _=>cases (show R.bad=R.ok sd1 h1 from e)
section
variable {X:Cx} {E:XE} {scope:Scope} {N:List Str} {src:List (Option Nat)} {tg iter elt:Expr} {ifs:List Expr} {pos:Pos}
noncomputable abbrev SCs (X:Cx) (E:XE) (ifs:List Expr) (t:Sd->M Bool):Prop:=PCs X ifs (zhc X.K E t)
theorem zpw:SCs X E [] (fun _=>pure true):=fun pins s σ H Q I ⟨ι,h,sd,L,hh,q⟩=>zne pins s σ H Q I (Fin.out hh q)
theorem zqs {c:Expr} {t:Sd->M Bool} (h:ST X E c t):SCs X E [c] t:=znP h
theorem blk {K:W.Frag} {g:D->Sd->M Sd} {tc:Sd->M Bool} {te:Sd->M D} {J:It} {ds:List D} {ι:Io} {H:Hp} {h:Hh} {sd:Sd} {σ:L2.St} {Q:VK} {p:Addr} (hk:zaF g src) (L:zbJ K ι H sd σ) (hr:zaQ K ι H h) (ok:zoA K ι H J ds) (hz:ds.length<=sizeLine)
  (q:Fin K E ι H ((do let ys<-zbo (zaY g tc te (zal src sd)) ds;pure (D.lst ys)) h) fun d ι' H'=> ∀ v,Rel K ι' H' d v->Q v H') (hp:H p=none):
  zqY J (zp4 K E g) (zhc K E tc) (zgK K E te) (bStart src σ) H p fun H'=>Q (.ref p) H':=by
 generalize hP:(fun (d:D) (ι':Io) (H':Hp)=> ∀ v,Rel K ι' H' d v->Q v H')=P at q
 generalize hf:zaY g tc te (zal src sd)=f at q
 have hpx:p∉ι.x:=fun z=>hr.nin hp (.inr z)
 have h0len:(zal src sd).length=src.length:=by unfold zal;rw [qaH]
 have h0non: ∀ (i:Nat),src[i]? = some none->(zal src sd)[i]? = some none:=fun i e=>by unfold zal;rw [List.getElem?_map,e];rfl
 refine ⟨fun i m σ' H'=>m=ds.length - i/\i<=ds.length/\ ∃ ι' h' done vs,ι'.x=p::ι.x/\za6 ι H ι'.show H'/\zbJ K ι' H' (zal src sd) σ'/\zaQ K ι' H' h'/\H' p=some (.lst vs)/\zam K ι' H' done vs/\done.length<=i/\
     Fin K E ι H ((do let ys<-zbo f (ds.drop i);pure (D.lst (done++ys))) h') P,
   ⟨_,rfl,Nat.zero_le _,ι.hide p,h,[],[],rfl,?_,L.bStart.pass (zen hp),hr.hide hp,zax,zam.nil,qaV _,?_⟩,?_⟩
 ·have:=hr.laidS (o:= .lst []) hp
  exact ⟨this.old,this.new,this.hid,this.hidk,this.keep⟩
 ·simpa using q
 rintro i m σ2 H2 ⟨rfl,hi2,ι2,h2,done,vs,hx2,s2,L2,hr2,e2,rl2,dl2,q2⟩
 have ps2:Pass ι H ι2 H2:=⟨s2.old,fun b o hb n=>⟨s2.keep b o hb n,fun z=>by
   rcases z with z | z
   · exact s2.nin hb n (.inl z)
   · rw [hx2] at z
     rcases qaP.mp z with z | z
     · rw [z,hp] at hb;cases hb
     · exact n (.inr z)⟩⟩
 have hp2:p∈ι2.x:=by rw [hx2];exact qau
 have base: ∀ {ι':Io} {H':Hp},za6 ι2 H2 ι' H'->za6 ι H ι'.show H':=fun t=>s2.trans (t.shown hx2)
 by_cases hlt:i<ds.length
 ·right
  refine ⟨ok.go ι2 H2 i ps2 hlt,fun σ' H'=>i+1<=ds.length/\ ∃ ι' h' done vs,ι'.x=p::ι.x/\za6 ι H ι'.show H'/\zbJ K ι' H' (zal src sd) σ'/\zaQ K ι' H' h'/\H' p=some (.lst vs)/\zam K ι' H' done vs/\done.length<=i+1/\
    Fin K E ι H ((do let ys<-zbo f (ds.drop (i+1));pure (D.lst (done++ys))) h') P,fun σ' H' z=>⟨ds.length - (i+1),by omega,rfl,z.1,z.2⟩,fun x H3 y=> ?_⟩
  obtain ⟨gr,d,ed,rd⟩:=ok.yld ι2 H2 h2 i x H3 ps2 hr2 hlt y
  obtain ⟨s3,hr3⟩:=gr.step hr2
  have edr:ds.drop i=d::ds.drop (i+1):=by
   rw [qae hlt]
   rw [qaf hlt] at ed
   rw [Option.some.inj ed]
  rw [edr] at q2
  have q3:=q2
  have st3:za6 ι2 H2 ι2 H3:=s3
  have e3:H3 p=some (.lst vs):=by rw [s3.hidk p hp2];exact e2
  have eq1:(do let ys<-zbo f (d::ds.drop (i+1));pure (D.lst (done++ys)):M D)=(g d (zal src sd)>>=fun sd1=>tc sd1>>=fun c=>if c=true then (te sd1>>=fun y=>zbo f (ds.drop (i+1))>>=fun ys=>pure (D.lst (done++[y]++ys))) else (zbo f (ds.drop (i+1))>>=fun ys=>pure (D.lst (done++ys)))):=by
   rw [zbo]
   rw [<- hf]
   simp only [zaY,bind_assoc]
   refine congrArg _ (funext fun sd1=> ?_)
   refine congrArg _ (funext fun c=> ?_)
   cases c with
   | true=>simp only [if_true,bind_assoc,pure_bind,List.append_assoc,List.cons_append,List.nil_append]
   | false=>simp only [qax,if_false,pure_bind]
  rw [eq1] at q3
  refine ⟨ι2,h2,zal src sd,d,L2.step s3,hr3,rd,?_⟩
  refine Fin.bindB q3 (fun ι' H' h' s hr'=>⟨ι'.show,base (s3.trans s),hr'.show⟩) fun sd4 h4 ι4 H4 e4 s4 hr4 q4 σ4 L4=> ?_
  have hx4:ι4.x=p::ι.x:=by rw [s4.hid];exact hx2
  obtain ⟨k1,k2⟩:=hk d _ h2 sd4 h4 h0len h0non e4
  refine ⟨ι4,h4,sd4,L4,hr4,Fin.bindB q4 (fun ι' H' h' s hr'=>⟨ι'.show,base ((s3.trans s4).trans s),hr'.show⟩) fun c h5 ι5 H5 e5 s5 hr5 q5=> ?_⟩
  have hx5:ι5.x=p::ι.x:=by rw [s5.hid];exact hx4
  have sub: ∀ {ι':Io} {H':Hp},zbJ K ι' H' sd4 σ4->zbJ K ι' H' (zal src sd) σ4:=fun {ι' H'} z=>⟨by rw [<- k1];exact z.1,fun j d' e=>z.2 j d' (k2 j d' (fun w=>by rw [h0non j w] at e;cases e) e)⟩
  have st5:za6 ι2 H2 ι5 H5:=(s3.trans s4).trans s5
  cases c with
  | false=>
   exact zqK ⟨hlt,ι5,h5,done,vs,hx5,base st5,sub (L4.step s5),hr5,by rw [st5.hidk p hp2];exact e2,rl2.step st5,Nat.le_succ_of_le dl2,q5⟩
  | true=>
   refine zqy ⟨ι5,h5,sd4,L4.step s5,hr5,Fin.bindB q5 (fun ι' H' h' s hr'=>⟨ι'.show,base (st5.trans s),hr'.show⟩) fun yd h6 ι6 H6 e6 s6 hr6 q6 y ry=> ?_⟩
   have st6:za6 ι2 H2 ι6 H6:=st5.trans s6
   have hx6:ι6.x=p::ι.x:=by rw [s6.hid];exact hx5
   have hp6:p∈ι6.x:=by rw [hx6];exact qau
   have e6':H6 p=some (.lst vs):=by rw [st6.hidk p hp2];exact e2
   refine ⟨vs,e6',by rw [<- rl2.length];omega,hlt,ι6,h6,done++[yd],vs++[y],hx6,zf2 hp hpx hx2 s2 st6,?_,hr6.hid hp6,zax,?_,?_,?_⟩
   ·exact ((sub (L4.step s5)).step s6).pass (zdo hp6)
   ·exact ((rl2.step st6).append (zam.cons ry zam.nil)).pass (zdo hp6)
   ·rw [qav,List.length_singleton];omega
   ·exact q6
 ·left
  have e:i=ds.length:=by omega
  subst e
  refine ⟨ok.stop ι2 H2 ps2,?_⟩
  rw [List.drop_length] at q2
  have q3:P (.lst done) ι2.show H2:=by
   have:Fin K E ι H ((pure (D.lst (done++[])):M D) h2) P:=q2
   rw [List.append_nil] at this
   exact this _ _ s2 hr2.show
  rw [<- hP] at q3
  refine q3 (.ref p) ?_
  simp only [Rel]
  refine ⟨p,vs,rfl,⟨e2,fun z=> ?_⟩,rl2.pass zee⟩
  rcases z with z | z
  ·exact (hr2.hidt p (by rw [hx2];exact qau)).2 z
  ·exact hpx (by have z:p∈ι2.x.tail:=z;rw [hx2] at z;exact z)
noncomputable def zaI (fi:Sd->M (List D)) (g:D->Sd->M Sd) (tc:Sd->M Bool) (te:Sd->M D) (src:List (Option Nat)):Sd->M D:=fun sd=>do
 let ds<-fi sd
 fits ds.length
 let ys<-zbo (zaY g tc te (zal src sd)) ds
 pure (D.lst ys)
theorem zjy {K:W.Frag} {fi:Sd->M (List D)} {g:D->Sd->M Sd} {tc:Sd->M Bool} {te:Sd->M D} (hk:zaF g src) (σ:L2.St) (H:Hp) (Q:VK) (q:zgK K E (zaI fi g tc te src) σ H Q):
  zlP (zsd K E fi) (zp4 K E g) (zhc K E tc) (zgK K E te) src σ H Q:=by
 obtain ⟨ι,h,sd,L,hh,q⟩:=q
 refine ⟨ι,h,sd,L,hh,Fin.bind q fun ds h1 ι1 H1 e1 s1 hr1 q1 J ok p hp=> ?_⟩
 obtain ⟨z,q2⟩:=Fin.fits q1
 exact blk hk (L.step s1) hr1 ok z q2 hp
theorem zkz {fi:Sd->M (List D)} {g:D->Sd->M Sd} {tc:Sd->M Bool} {te:Sd->M D} (B:BOk X scope N src) (hk:zaF g src) (hi:SI X E tg iter fi)
  (hg: ∀ s H fp,SG (cxB X scope N s H fp) E tg g) (ht: ∀ s H fp,SCs (cxB X scope N s H fp) E ifs tc) (he: ∀ s H fp,SE (cxB X scope N s H fp) E elt te)
  (hs: ∀ x,foldedSetIterable iter X.env x=pure x:=by intro _;rfl):SE X E (.ListComp elt [⟨tg,iter,ifs,0⟩] scope pos) (zaI fi g tc te src):=
 PE.imp (zj4 B hi hg ht he hs) (zjy hk)
theorem zji {fi:Sd->M (List D)} {g:D->Sd->M Sd} {tc:Sd->M Bool} {te:Sd->M D} (i:Nat) {y:Str} {py spos:Pos} (B:BOk X scope N src) (hk:zaF g src) (hi:SI X E tg iter fi)
  (hg: ∀ s H fp,SG (cxB X scope N s H fp) E tg g) (ht: ∀ s H fp,SCs (cxB X scope N s H fp) E ifs tc) (he: ∀ s H fp,SE (cxB X scope N s H fp) E elt te)
  (hN:X.N.Nodup) (hy:X.N[i]? = some y) (hx:Loc X.env.scope y) (hf:X.fn y=true\/X.env.scope.names.lookup y=some .local) (hsw:swapsWith (.ListComp elt [⟨tg,iter,ifs,0⟩] scope pos) (some (.Name y py)) spos.line X.env=pure true)
  (hs: ∀ x,foldedSetIterable iter X.env x=pure x:=by intro _;rfl):SS X E (.Assign [.Name y py] (.ListComp elt [⟨tg,iter,ifs,0⟩] scope pos) spos) (fun sd=>do let d<-zaI fi g tc te src sd;pure (.nx (sd.set i (some d)))):=by
 refine PS.imp (ziF B hi hg ht he hN hy hx hsw hf hs) fun D0 σ H ⟨ι,h,sd,L,hh,q⟩=>zjy hk σ H _ ⟨ι,h,sd,L,hh,Fin.bind q fun d h1 ι1 H1 e1 s1 hr1 q1 v rv=> ?_⟩
 exact Fin.out (E:=E) (P:=zfp X.K D0) hr1 q1 _ ((L.step s1).set rv i)
end
section
variable {K:W.Frag} {ι:Io} {H:Hp} {h:Hh} {n:Nat} {a:Addr}
theorem zet {o:HO} (hn:ι.c[n]? = some (some a)):Pass ι H ι (upd H a o):=⟨fun _ _ z=> .inl z,fun b o' hb nb=>⟨by rw [zas (show b≠a from fun z=>nb (.inl (z▸List.mem_of_getElem? hn)))];exact hb,nb⟩⟩
theorem zaQ.cellS {o:HO} (hr:zaQ K ι H h) (hn:ι.c[n]? = some (some a)):za6 ι H ι (upd H a o):=
 ⟨fun _ _ z=> .inl z,fun _ z=> .inl z,rfl,fun b hb=>zas fun z=>(hr.hidt b hb).2 (z▸List.mem_of_getElem? hn),fun b o' hb nb=>((zet hn).keep b o' hb nb).1⟩
theorem zaQ.cellO {c':C} {o':HO} (hr:zaQ K ι H h) (hn:ι.c[n]? = some (some a)) (co:CO K ι H c' o'):zaQ K ι (upd H a o') (h.set n c'):=by
 refine ⟨by rw [qaI];exact hr.len,hr.inj,fun m b c hm hc=> ?_,fun m hm=> ?_,fun b hb=>⟨?_,(hr.hidt b hb).2⟩⟩
 ·by_cases e:n=m
  ·subst e
   rw [hn] at hm
   cases hm
   rw [qai (by rw [hr.len];exact (qac.mp hn).1)] at hc
   cases hc
   exact ⟨o',zax,co.pass (zet hn)⟩
  ·rw [qao e] at hc
   obtain ⟨o2,e2,e3⟩:=hr.at_ m b c hm hc
   have ne:b≠a:=fun z=>by subst z;exact e (hr.inj n m b hn hm)
   exact ⟨o2,by rw [zas ne];exact e2,e3.pass (zet hn)⟩
 ·have e:n≠m:=fun z=>by subst z;rw [hn] at hm;cases hm
  rw [qao e]
  exact hr.dead m hm
 ·rw [zas (show b≠a from fun z=>(hr.hidt b hb).2 (z▸List.mem_of_getElem? hn))]
  exact (hr.hidt b hb).1
theorem zaQ.cell {ds':List D} {vs':List V} (hr:zaQ K ι H h) (hn:ι.c[n]? = some (some a)) (rl:zam K ι H ds' vs'):zaQ K ι (upd H a (.lst vs')) (h.set n (.lst ds')):=hr.cellO hn ⟨vs',rfl,rl⟩
theorem zaQ.read {ds:List D} {v:V} (hr:zaQ K ι H h) (r:Rel K ι H (.cel n) v) (e:h[n]? = some (.lst ds)): ∃ a vs,v= .ref a/\ι.c[n]? = some (some a)/\H a=some (.lst vs)/\zam K ι H ds vs:=by
 simp only [Rel] at r
 obtain ⟨a,e1,r | r⟩:=r
 ·obtain ⟨o,e3,vs,rfl,e4⟩:=hr.at_ n a _ r e
  exact ⟨a,vs,e1,r,e3,e4⟩
 ·rw [hr.dead n r] at e
  cases e
end
noncomputable def zaf (n:Nat):M (List D):=fun h=>match h[n]? with
 | some (.lst ds)=> .ok ds h
 | _=> .bad
noncomputable def za2 (n:Nat) (ds:List D):M Unit:=fun h=> .ok () (h.set n (.lst ds))
theorem zb5 {n:Nat} {h h':Hh} {ds:List D} (e:zaf n h= .ok ds h'):h'=h/\h[n]? = some (.lst ds):=by
 unfold zaf at e
 cases z:h[n]? with
 | none=>rw [z] at e;cases e
 | some c=>
  rw [z] at e
  cases c with
  | lst xs=>cases e;exact ⟨rfl,rfl⟩
  | dic _=>cases e
  | dit ks=>cases e
  | ins _ _=>cases e
  | dead=>cases e
noncomputable def ofO {α:Type}:Option α->M α
 | some a=>pure a
 | none=>M.bad
noncomputable def dIx:D->D->M D:=fun x y=>match x,y with
 | .tup ds,.int i=>ofO (atI ds i)
 | .lst ds,.int i=>ofO (atI ds i)
 | .scr ds,.int i=>ofO (atI ds i)
 | .cel n,.int i=>do let ds<-zaf n;ofO (atI ds i)
 | _,_=>M.bad
theorem zfx {K:W.Frag} {ι:Io} {H:Hp} {ds:List D} {vs:List V} {i:Int} {d:D} (rl:zam K ι H ds vs) (e:atI ds i=some d): ∃ v,atI vs i=some v/\Rel K ι H d v:=by
 unfold atI at e ⊢
 rw [<- rl.length]
 cases z:ixN ds.length i with
 | none=>rw [z] at e;cases e
 | some j=>
  rw [z] at e
  have e:ds[j]? = some d:=e
  exact rl.get e
section
variable {X:Cx} {E:XE}
theorem Fin.ofO {α:Type} {K:W.Frag} {ι:Io} {H:Hp} {h:Hh} {o:Option α} {P:α->Io->Hp->Prop} (hr:zaQ K ι H h) (q:Fin K E ι H (L3.ofO o h) P): ∃ a,o=some a/\P a ι H:=by
 cases o with
 | none=>exact qa0 q
 | some a=>exact ⟨a,rfl,Fin.out hr q⟩
theorem zsK:IxR X (zdq X.K E dIx):=by
 refine IxR.imp (zni.or zoZ) fun x y H Q ⟨ι,h,d1,d2,r1,r2,hr,q⟩=> ?_
 cases d2 with
 | int i=>
  simp only [Rel] at r2
  cases d1 with
  | tup ds=>
   obtain ⟨a,vs,e,h1,h2⟩:=zcn r1
   obtain ⟨d,e1,q⟩:=Fin.ofO hr q
   obtain ⟨v,e2,rv⟩:=zfx h2 e1
   exact .inr ⟨a,vs,i,v,e,r2,h1,e2,q v rv⟩
  | lst ds=>
   obtain ⟨a,vs,e,h1,h2⟩:=zdU r1
   obtain ⟨d,e1,q⟩:=Fin.ofO hr q
   obtain ⟨v,e2,rv⟩:=zfx h2 e1
   exact .inl ⟨a,vs,i,v,e,r2,h1,e2,q v rv⟩
  | scr ds=>
   obtain ⟨a,vs,e,h1,h2⟩:=zjB r1
   obtain ⟨d,e1,q⟩:=Fin.ofO hr q
   obtain ⟨v,e2,rv⟩:=zfx h2 e1
   exact .inl ⟨a,vs,i,v,e,r2,h1,e2,q v rv⟩
  | cel n=>
   have q:Fin X.K E ι H ((zaf n>>=fun ds=>L3.ofO (atI ds i)) h) _:=q
   have q':Fin X.K E ι H (M.bind (zaf n) (fun ds=>L3.ofO (atI ds i)) h) _:=q
   unfold M.bind at q'
   cases z:zaf n h with
   | bad=>rw [z] at q';exact qa0 q'
   | exc c h'=>unfold zaf at z;split at z<;>cases z
   | ok ds h'=>
    rw [z] at q'
    obtain ⟨rfl,z2⟩:=zb5 z
    obtain ⟨a,vs,e,hn,hH,rl⟩:=hr.read r1 z2
    obtain ⟨d,e1,q⟩:=Fin.ofO hr q'
    obtain ⟨v,e2,rv⟩:=zfx rl e1
    exact .inl ⟨a,vs,i,v,e,r2,SqL.of hH,e2,q v rv⟩
  | _=>exact qa0 q
 | _=>cases d1<;>exact qa0 q
noncomputable def zjb (o i d:D):M Unit:=match o,i with
 | .cel n,.int k=>do
  let ds<-zaf n
  let j<-ofO (ixN ds.length k)
  za2 n (ds.set j d)
 | _,_=>M.bad
theorem zo7 {o i:Expr} {pos:Pos} {fo fi:Sd->M D} (hp: ∀ {t:zoP},zox X t->PG X (.Subscript o i pos) (zsc (zgK X.K E fo) (zgK X.K E fi) t)):
  SG X E (.Subscript o i pos) (fun d sd=>do let x<-fo sd;let y<-fi sd;zjb x y d;pure sd):=by
 refine PG.imp (hp zlo) fun v σ H Q ⟨ι,h,sd,d,L,hr,rd,q⟩=>⟨ι,h,sd,L,hr,Fin.bind q fun x h1 ι1 H1 e1 s1 hr1 q1 xv rx=> ?_⟩
 refine ⟨ι1,h1,sd,L.step s1,hr1,Fin.bind q1 fun y h2 ι2 H2 e2 s2 hr2 q2 yv ry=> ?_⟩
 cases x with
 | cel n=>
  cases y with
  | int k=>
   have rx2:=rx.step s2
   have q3:Fin X.K E ι2 H2 ((zaf n>>=fun ds=>(ofO (ixN ds.length k)>>=fun j=>za2 n (ds.set j d)>>=fun _=>pure sd)) h2) (fun sd' ι' H'=> ∀ σ',zbJ X.K ι' H' sd' σ'->Q σ' H'):=by
    have e:(do zjb (.cel n) (.int k) d;pure sd:M Sd)=(zaf n>>=fun ds=>(ofO (ixN ds.length k)>>=fun j=>za2 n (ds.set j d)>>=fun _=>pure sd)):=by
     show ((zaf n>>=fun ds=>(ofO (ixN ds.length k)>>=fun j=>za2 n (ds.set j d)))>>=fun _=>pure sd)=_
     simp only [bind_assoc]
    rw [<- e]
    exact q2
   have q':Fin X.K E ι2 H2 (M.bind (zaf n) (fun ds=>(ofO (ixN ds.length k)>>=fun j=>za2 n (ds.set j d)>>=fun _=>pure sd)) h2) _:=q3
   unfold M.bind at q'
   cases z:zaf n h2 with
   | bad=>rw [z] at q';exact qa0 q'
   | exc c h'=>unfold zaf at z;split at z<;>cases z
   | ok ds h'=>
    rw [z] at q'
    obtain ⟨rfl,z2⟩:=zb5 z
    obtain ⟨a,vs,e,hn,hH,rl⟩:=hr2.read rx2 z2
    simp only [Rel] at ry
    have q4:Fin X.K E ι2 H2 (M.bind (ofO (ixN ds.length k)) (fun j=>za2 n (ds.set j d)>>=fun _=>pure sd) h') _:=q'
    unfold M.bind at q4
    cases z3:ixN ds.length k with
    | none=>rw [z3] at q4;exact qa0 q4
    | some j=>
     rw [z3] at q4
     have q5:Fin X.K E ι2 H2 (R.ok sd (h'.set n (.lst (ds.set j d)))) (fun sd' ι' H'=> ∀ σ',zbJ X.K ι' H' sd' σ'->Q σ' H'):=q4
     refine ⟨a,vs,k,j,e,ry,hH,by rw [<- rl.length];exact z3,?_⟩
     have rd2:=(rd.step s1).step s2
     exact q5 ι2 _ (hr2.cellS hn) (hr2.cell hn (rl.set rd2 j)) σ (((L.step s1).step s2).step (hr2.cellS hn))
  | _=>exact qa0 q2
 | _=>cases y<;>exact qa0 q2
end
noncomputable abbrev E0x:XE:=fun _ _=>False
noncomputable def zb6 (K:W.Frag) (n:Nat) (F:List D->M D):Sp:=fun vs H Q _=>vs.length=n/\ ∃ ι h ds,zam K ι H ds vs/\zaQ K ι H h/\Fin K E0x ι H (F ds h) fun d ι' H'=> ∀ v,Rel K ι' H' d v->Q v H'
noncomputable def zfb (n:Nat) (ds:List D):Sd:=ds.map some++List.replicate (n - ds.length) none
noncomputable def zdr:Out->M D
 | .nx _=>pure .non
 | .rt d=>pure d
 | _=>M.bad
noncomputable def zds (n:Nat) (G:Sd->M Out) (ds:List D):M D:=do let o<-G (zfb n ds);zdr o
theorem zdB {K:W.Frag} {ι:Io} {H:Hp} {ds:List D} {vs:List V} {N:List Str} (h:zam K ι H ds vs):zbJ K ι H (zfb N.length ds) (L2.zdx N vs):=by
 have hl:=h.length
 unfold zfb L2.zdx
 refine ⟨by simp [hl],fun i d e=> ?_⟩
 by_cases hi:i<ds.length
 ·rw [qad (by simpa using hi),List.getElem?_map] at e
  cases z:ds[i]? with
  | none=>rw [z] at e;cases e
  | some d'=>
   rw [z] at e
   cases e
   obtain ⟨v,h1,h2⟩:=h.get z
   exact ⟨v,by rw [qad (by rw [qaH, <-hl];exact hi),List.getElem?_map,h1];rfl,h2⟩
 ·rw [qaa (by simpa using hi),List.getElem?_replicate] at e
  split at e<;>cases e
section
variable {P:Program} {w:World} {K:W.Frag} {mg:Str->Option Value} {base:Heap}
theorem zby {x qual:Str} {st:Stmt} {f:Addr} {fd:FuncData} {N ps:List Str} {k:Nat} {G:Sd->M Out} (F:Fun K x qual st f fd) (S:zau N ps (zae st))
  (hb: ∀ (cdv:Value) (A:Around) (outer:List Env) (s:Shared) (H:Hp) (E:XK),zcO k (A.deeper (envOfC qual (zae st) s.heap.objs.size f cdv))->SSs (zg7 CX0 P w K mg base N qual (zae st) f cdv A outer s H E).nox E0x (zbS st) G):
  zbw P w K mg base CX0 (k+1) f fd ps (zb6 K ps.length (zds N.length G)):=by
 refine F.ok S (fun vs H Q E h=>h.1) fun cdv A outer s H vs Q E hr ⟨hl,ι,h,ds,rl,hh,q⟩=>⟨_,hb cdv A outer s H E hr,ι,h,zfb N.length ds,zdB rl,hh,?_⟩
 refine Fin.bind q fun o h1 ι1 H1 e1 s1 hr1 q1=> ?_
 cases o with
 | nx sd=>exact fun σ' _=>Fin.out hr1 q1 _ (by simp [Rel])
 | rt d=>exact fun v rv=>Fin.out hr1 q1 v rv
 | bk sd=>exact qa0 q1
 | ct sd=>exact qa0 q1
end
section
variable {X:Cx} {e:Expr} {es:List Expr} {pos p:Pos}
noncomputable def zaq (n:Nat) (F:List D->M D) (ds:List D):M D:=if ds.length=n then F ds else M.bad
theorem zny {k:Nat} {f:Addr} {fd:FuncData} {ps:List Str} {n:Nat} {F:List D->M D} {fs:Sd->M (List D)} {x:Str} (G:zbw X.prog X.w X.K X.mg X.base CX0 k f fd ps (zb6 X.K n F)) (hr:zcO k X.A) (hg:Gl X x) (hm:X.mg x=some (.ref f)) (hk:W.keepIn X.K (.ref f)=true) (hb:zaN X.K fd ps [])
  (ha:SA X E0x (e::es) fs) (hdb:(x==("__debug__":Str))=false:=by decide) (he:starEach (e::es) X.env=(false,eval e X.env)::starEach es X.env:=by rfl) (hpl:(backTo pos (starEach es X.env)).any (·.1)=false:=by rfl):
  SE X E0x (.Call (.Name x p) (e::es) [] pos) (fun sd=>do let ds<-fs sd;zaq n F ds):=by
 refine PE.imp (zg9 G hr hg hm hk hb (dvs:=[]) .nil (E:=fun _ _ _=>False) zqk ha hdb he hpl) fun σ H Q ⟨ι,h,sd,L,hh,q⟩=>⟨ι,h,sd,L,hh,Fin.bind q fun ds h1 ι1 H1 e1 s1 hr1 q1 vs rv=> ?_⟩
 show zb6 X.K n F (vs++[]) H1 Q _
 rw [List.append_nil]
 unfold zaq at q1
 by_cases hl:ds.length=n
 ·rw [qa4 hl] at q1
  exact ⟨by rw [<- rv.length];exact hl,ι1,h1,ds,rv,hr1,q1⟩
 ·rw [qa5 hl] at q1
  exact qa0 q1
end
section
variable {X:Cx} {E:XE}
theorem Fin.guard {α:Type} {K:W.Frag} {ι:Io} {H:Hp} {h:Hh} {c:Prop} [Decidable c] {f:M α} {P:α->Io->Hp->Prop} (q:Fin K E ι H ((if c then f else M.bad) h) P):c/\Fin K E ι H (f h) P:=by
 by_cases hc:c
 ·rw [qa4 hc] at q;exact ⟨hc,q⟩
 ·rw [qa5 hc] at q;exact qa0 q
theorem zlW:OpR X (binaryOp .Add) (fun x y H Q=> ∃ a b ys,x= .ref a/\y= .ref b/\SqT X.K H a []/\SqT X.K H b ys/\Q (.ref b) H):=by
 intro pins s σ H x y v u Q I rx ry h
 obtain ⟨a,b,ys,rfl,rfl,ha,hb,q⟩:=h
 cases rx
 cases ry
 obtain ⟨its,r1,p1,_⟩:=I.tuple ha
 obtain ⟨its2,r2,p2,_⟩:=I.tuple hb
 cases r1
 obtain ⟨⟨cls,dd,data,sl⟩,ho,hc,n,hd⟩:=id p1
 obtain ⟨⟨cls2,dd2,data2,sl2⟩,ho2,hc2,n2,hd2⟩:=id p2
 simp only at hc hd hc2 hd2
 subst hc hd hc2 hd2
 exact concat_meets ⟨_,ho,rfl⟩ ⟨_,ho2,rfl⟩ noFill_tuple_add seq_tuple_add PySem.F.slot_tuple_add PySem.F.entry_tuple_add (PySem.F.args_tuple_add_2 _ _)
   (tuple_addW0 a b _ _ n n2 dd dd2 sl sl2 (by simp)) ⟨ho,ho2,⟨.ref b,H,I,rfl,q⟩⟩
noncomputable def zbv (x y:D):M D:=match x,y with
 | .int i,.int j=>pure (.int (i+j))
 | .tup xs,.tup ys=>do fits (xs.length+ys.length);pure (.tup (xs++ys))
 | .lst xs,.lst ys=>do fits (xs.length+ys.length);pure (.lst (xs++ys))
 | .str x,.str y=>do fits (x.length+y.length);pure (.str (x++y))
 | _,_=>M.bad
theorem zap:OpR X (binaryOp .Add) (zdq X.K E zbv):=by
 refine OpR.imp (zpe.or (zlW.or (zot.or (zpq.or zit)))) fun x y H Q ⟨ι,h,d1,d2,r1,r2,hr,q⟩=> ?_
 unfold zbv at q
 split at q
 ·simp only [Rel] at r1 r2
  exact .inl ⟨_,_,r1,r2,Fin.out hr q _ (by simp [Rel])⟩
 ·rename_i xs ys
  right
  obtain ⟨a,vs,e,h1,h2⟩:=zcn r1
  obtain ⟨b,ws,e',h1',h2'⟩:=zcn r2
  obtain ⟨z,q⟩:=Fin.fits q
  cases xs with
  | nil=>
   simp only [zam] at h2
   subst h2
   exact .inl ⟨a,b,ws,e,e',h1,h1',Fin.out hr q _ (by rw [<- e'];exact r2)⟩
  | cons x0 xr=>
   refine .inr (.inl ⟨a,b,vs,ws,e,e',h1,h1',fun z=> ?_,by rw [<- h2.length, <-h2'.length];exact z,fun z=> ?_,fun z p hp=>zmy hr (h2.append h2') q hp⟩)
   ·subst z
    have:=h2.length
    cases this
   ·subst z
    have:=h2'.length
    cases ys with
    | nil=>rw [List.append_nil] at q;exact Fin.out hr q _ (by rw [<- e];exact r1)
    | cons _ _=>cases this
 ·rename_i xs ys
  right;right;right;left
  simp only [Rel] at r1 r2
  obtain ⟨a,vs,e,h1,h2⟩:=r1
  obtain ⟨b,ws,e',h1',h2'⟩:=r2
  obtain ⟨z,q⟩:=Fin.fits q
  exact ⟨a,b,vs,ws,e,e',h1.1,h1'.1,by rw [<- h2.length, <-h2'.length];exact z,fun p hp=>zmM hr (h2.append h2') q hp⟩
 ·simp only [Rel] at r1 r2
  obtain ⟨z,q⟩:=Fin.fits q
  exact .inr (.inr (.inr (.inr ⟨_,_,r1,r2,z,Fin.out hr q _ (by simp [Rel])⟩)))
 ·exact qa0 q
noncomputable def dII (C:Int->Int->Bool) (g:Int->Int->D) (x y:D):M D:=match x,y with
 | .int i,.int j=>if C i j=true then pure (g i j) else M.bad
 | _,_=>M.bad
theorem zjc {f:Value->Value->Sem Value} {C:Int->Int->Bool} {C':Int->Int->Prop} {g:Int->Int->V} {g':Int->Int->D} (ho:OpR X f (rI C' g)) (hc: ∀ i j,C i j=true->C' i j) (hg: ∀ i j ι H,Rel X.K ι H (g' i j) (g i j)):OpR X f (zdq X.K E (dII C g')):=by
 refine OpR.imp ho fun x y H Q ⟨ι,h,d1,d2,r1,r2,hr,q⟩=> ?_
 unfold dII at q
 split at q
 ·simp only [Rel] at r1 r2
  obtain ⟨c,q⟩:=Fin.guard q
  exact ⟨_,_,r1,r2,hc _ _ c,Fin.out hr q _ (hg _ _ _ _)⟩
 ·exact qa0 q
theorem zjh {f:Value->Value->Sem Value} {g:Int->Int->V} {g':Int->Int->D} (ho:OpR X f (rI0 g)) (hg: ∀ i j ι H,Rel X.K ι H (g' i j) (g i j)):OpR X f (zdq X.K E (dII (fun _ _=>true) g')):=by
 refine OpR.imp ho fun x y H Q ⟨ι,h,d1,d2,r1,r2,hr,q⟩=> ?_
 unfold dII at q
 split at q
 ·simp only [Rel] at r1 r2
  obtain ⟨c,q⟩:=Fin.guard q
  exact ⟨_,_,r1,r2,Fin.out hr q _ (hg _ _ _ _)⟩
 ·exact qa0 q
noncomputable def zmS:=dII (fun _ _=>true) fun i j=> .int (i - j)
theorem zeu:OpR X (binaryOp .Sub) (zdq X.K E zmS):=zjh zoD fun _ _ _ _=>by simp [Rel]
noncomputable def zb1 (i:Int):Bool:=decide (-(2^64)<i) && decide (i<2^64)
theorem zel {i:Int} (h:zb1 i=true): -(2^64)<i/\i<2^64:=by unfold zb1 at h;simpa using h
theorem zlz:OpR X (binaryOp .FloorDiv) (rI (fun _ j=>0<j/\j<2^64) fun i j=> .int (i / j)):=opI fun i j _ _ _ _ _ hc q=>by
 refine floordiv_int (by omega) (by rw [Int.fdiv_eq_ediv_of_nonneg _ (by omega)];exact q) (.inl (PyProof.noPylong_of_log2 ?_))
 have h1:j.natAbs<2^64:=by omega
 have h0:j.natAbs≠0:=by omega
 exact Nat.lt_trans ((Nat.log2_lt h0).mpr h1) (by decide)
noncomputable def zlA:=dII (fun _ j=>decide (0<j) && decide (j<2^64)) fun i j=> .int (i / j)
theorem zhX:OpR X (binaryOp .FloorDiv) (zdq X.K E zlA):=zjc zlz (fun i j h=>by simpa using h) fun _ _ _ _=>by simp [Rel]
noncomputable def zob:=dII (fun _ j=>decide (0<j)) fun i j=> .int (i % j)
theorem zeC:OpR X (binaryOp .Mod) (zdq X.K E zob):=zjc zqO (fun i j h=>by simpa using h) fun _ _ _ _=>by simp [Rel]
noncomputable def zoy (i j:Int):Bool:=decide (0<=j) && decide (j<=1000000) && decide (i.natAbs<2^64)
noncomputable def zoT:=dII zoy fun i j=> .int (i^j.toNat)
theorem zia {i j:Int} (h:zoy i j=true):zqV i j:=by unfold zoy at h;simpa [zqV,and_assoc] using h
theorem zkh:OpR X (binaryOp .Pow) (zdq X.K E zoT):=zjc zoV (fun _ _=>zia) fun _ _ _ _=>by simp [Rel]
noncomputable def zrA:=dII zoy fun i j=> .int (i*2^j.toNat)
theorem znd:OpR X (binaryOp .LShift) (zdq X.K E zrA):=zjc zoF (fun _ _=>zia) fun _ _ _ _=>by simp [Rel]
noncomputable def zrj:=dII (fun _ j=>decide (0<=j)) fun i j=> .int (i / 2^j.toNat)
theorem zoo:OpR X (binaryOp .RShift) (zdq X.K E zrj):=zjc zoJ (fun i j h=>by simpa using h) fun _ _ _ _=>by simp [Rel]
noncomputable def zr8:=dII (fun _ _=>true) fun i j=> .int (Builtin.bitAnd i j)
theorem zn6:OpR X (binaryOp .BitAnd) (zdq X.K E zr8):=zjh zqN fun _ _ _ _=>by simp [Rel]
noncomputable def dLt:=dII (fun _ _=>true) fun i j=> .bl (decide (i<j))
theorem zp3:OpR X (compareOp .Lt) (zdq X.K E dLt):=zjh zrd fun _ _ _ _=>by simp [Rel]
noncomputable def dLe:=dII (fun _ _=>true) fun i j=> .bl (decide (i<=j))
noncomputable def dGt:=dII (fun _ _=>true) fun i j=> .bl (decide (j<i))
noncomputable def dGe:=dII (fun _ _=>true) fun i j=> .bl (decide (j<=i))
noncomputable def zmd:D->M D
 | .int i=>pure (.int (-i))
 | _=>M.bad
theorem zpb {a:Expr} {pos:Pos} {fa:Sd->M D} (ha:SE X E a fa):SE X E (.UnaryOp .USub a pos) (fun sd=>do let x<-fa sd;zmd x):=by
 refine PE.imp (zpY zl8 ha) fun σ H Q ⟨ι,h,sd,L,hh,q⟩=>⟨ι,h,sd,L,hh,Fin.bind q fun d h1 ι1 H1 e1 s1 hr1 q1 v rv=> ?_⟩
 cases d with
 | int i=>simp only [Rel] at rv;exact ⟨i,rv,Fin.out hr1 q1 _ (by simp [Rel])⟩
 | _=>exact qa0 q1
mutual
noncomputable def pd:D->Option PyData
 | .non=>some .none
 | .bl b=>some (.bool b)
 | .int i=>some (.int i)
 | .str x=>some (.str x)
 | .tup xs=>(pdL xs).map .tuple
 | .lst xs=>(pdL xs).map .list
 | .scr xs=>(pdL xs).map .list
 | _=>none
noncomputable def pdL:List D->Option (List PyData)
 | []=>some []
 | x::xs=>match pd x,pdL xs with
  | some a,some r=>some (a::r)
  | _,_=>none
end
mutual
theorem zem {pins:List (Addr×Obj)} {σ:L2.St} {H:Hp} {s:Shared} {ι:Io} (I:Inv X pins σ H s): ∀ {d:D} {v:V} {u:Value} {p:PyData},Rel X.K ι H d v->zbk v u->pd d=some p-> ∃ as,Reads s.heap u p as
 | .non,v,u,p,r,ru,e=>by simp only [Rel] at r;subst r;cases ru;cases e;exact ⟨_,.none⟩
 | .bl b,v,u,p,r,ru,e=>by simp only [Rel] at r;subst r;cases ru;cases e;exact ⟨_,.bool _⟩
 | .int i,v,u,p,r,ru,e=>by simp only [Rel] at r;subst r;obtain ⟨t,rfl⟩:=ru;cases e;exact ⟨_,.int _ _⟩
 | .str i,v,u,p,r,ru,e=>by simp only [Rel] at r;subst r;obtain ⟨t,rfl⟩:=ru;cases e;exact ⟨_,.str _ _⟩
 | .tup ds,v,u,p,r,ru,e=>by
  obtain ⟨a,vs,rfl,h1,h2⟩:=zcn r
  cases ru
  obtain ⟨its,rv,pl,_⟩:=I.tuple h1
  obtain ⟨o,ho,hc,n,hd⟩:=pl
  unfold pd at e
  cases z:pdL ds with
  | none=>rw [z] at e;cases e
  | some ps=>
   rw [z] at e;cases e
   obtain ⟨as,q⟩:=zf7 I h2 rv z
   exact ⟨_,.tuple ho hc hd (by simpa using q)⟩
 | .lst ds,v,u,p,r,ru,e=>by
  obtain ⟨a,vs,rfl,h1,h2⟩:=zdU r
  cases ru
  obtain ⟨its,rv,pl,_⟩:=I.list h1
  obtain ⟨o,ho,hc,n,hd⟩:=pl.isList
  unfold pd at e
  cases z:pdL ds with
  | none=>rw [z] at e;cases e
  | some ps=>
   rw [z] at e;cases e
   obtain ⟨as,q⟩:=zf7 I h2 rv z
   exact ⟨_,.list ho hc hd (by simpa using q)⟩
 | .scr ds,v,u,p,r,ru,e=>by
  obtain ⟨a,vs,rfl,h1,h2⟩:=zjB r
  cases ru
  obtain ⟨its,rv,pl,_⟩:=I.list h1
  obtain ⟨o,ho,hc,n,hd⟩:=pl.isList
  unfold pd at e
  cases z:pdL ds with
  | none=>rw [z] at e;cases e
  | some ps=>
   rw [z] at e;cases e
   obtain ⟨as,q⟩:=zf7 I h2 rv z
   exact ⟨_,.list ho hc hd (by simpa using q)⟩
 | .cel n,_,_,_,_,_,e=>by cases e
 | .set xs,_,_,_,_,_,e=>by cases e
 | .dct,_,_,_,_,_,e=>by cases e
 | .fn _,_,_,_,_,_,e=>by cases e
 | .exn _,_,_,_,_,_,e=>by cases e
theorem zf7 {pins:List (Addr×Obj)} {σ:L2.St} {H:Hp} {s:Shared} {ι:Io} (I:Inv X pins σ H s): ∀ {ds:List D} {vs:List V} {us:List Value} {ps:List PyData},zam X.K ι H ds vs->zaM vs us->pdL ds=some ps-> ∃ as,ReadsAll s.heap us ps as
 | [],vs,us,ps,r,ru,e=>by simp only [zam] at r;subst r;cases ru;cases e;exact ⟨_,.nil⟩
 | d::ds,vs,us,ps,r,ru,e=>by
  simp only [zam] at r
  obtain ⟨v,vr,rfl,r1,r2⟩:=r
  cases ru with
  | cons ru1 ru2=>
   unfold pdL at e
   cases z:pd d with
   | none=>rw [z] at e;cases e
   | some a=>
    cases z2:pdL ds with
    | none=>rw [z,z2] at e;cases e
    | some b=>
     rw [z,z2] at e
     cases e
     obtain ⟨as,q1⟩:=zem I r1 ru1 z
     obtain ⟨bs,q2⟩:=zf7 I r2 ru2 z2
     exact ⟨_,.cons q1 q2⟩
end
noncomputable def zfv (a b:PyData):Bool:=a.canLay0 && b.canLay0 && decide (min a.depth b.depth<=60)
noncomputable def zin (neg:Bool) (x y:D):M D:=match pd x,pd y with
 | some a,some b=>if zfv a b=true then pure (.bl (if neg then !PyData.eqv a b else PyData.eqv a b)) else M.bad
 | _,_=>M.bad
noncomputable def dEq:=zin false
noncomputable def dNe:=zin true
theorem zfD {a b:PyData} (h:zfv a b=true):a.canLay0=true/\b.canLay0=true/\min a.depth b.depth<=60:=by unfold zfv at h;simpa [and_assoc] using h
theorem zhT {K:W.Frag} {ι:Io} {H:Hp} {h:Hh} {neg:Bool} {x y:D} {P:D->Io->Hp->Prop} (q:Fin K E ι H (zin neg x y h) P): ∃ a b,pd x=some a/\pd y=some b/\zfv a b=true/\Fin K E ι H ((pure (.bl (if neg then !PyData.eqv a b else PyData.eqv a b)):M D) h) P:=by
 unfold zin at q
 cases e1:pd x with
 | none=>rw [e1] at q;exact qa0 q
 | some a=>
  cases e2:pd y with
  | none=>rw [e1,e2] at q;exact qa0 q
  | some b=>
   rw [e1,e2] at q
   obtain ⟨c,q⟩:=Fin.guard q
   exact ⟨a,b,rfl,rfl,c,q⟩
theorem zcM (hu:X.A.units+60<cLine):OpR X (compareOp .Eq) (zdq X.K E dEq):=by
 intro pins s σ H x y v u Q I rx ry ⟨ι,h,d1,d2,r1,r2,hr,q⟩
 obtain ⟨a,b,e1,e2,c,q2⟩:=zhT q
 obtain ⟨c1,c2,c3⟩:=zfD c
 obtain ⟨as,ra⟩:=zem I r1 rx e1
 obtain ⟨bs,rb⟩:=zem I r2 ry e2
 exact SeqAt.compareEq_reads ra rb c1 c2 (by omega) ⟨.bl _,H,I,rfl,Fin.out hr q2 (.bl _) (by simp [Rel])⟩
theorem zh8 (hu:X.A.units+60<cLine):OpR X (compareOp .NotEq) (zdq X.K E dNe):=by
 intro pins s σ H x y v u Q I rx ry ⟨ι,h,d1,d2,r1,r2,hr,q⟩
 obtain ⟨a,b,e1,e2,c,q2⟩:=zhT q
 obtain ⟨c1,c2,c3⟩:=zfD c
 obtain ⟨as,ra⟩:=zem I r1 rx e1
 obtain ⟨bs,rb⟩:=zem I r2 ry e2
 exact SeqAt.compareNe_reads ra rb c1 c2 (by omega) ⟨.bl _,H,I,rfl,Fin.out hr q2 (.bl _) (by simp [Rel])⟩
noncomputable def zk6 (a:PyData) (xs:List PyData):Bool:=a.canLay0 && PyData.canLayAll0 xs && decide (min (PyData.depthAll xs) a.depth<=50)
theorem zho {a:PyData} {xs:List PyData} (h:zk6 a xs=true):a.canLay0=true/\PyData.canLayAll0 xs=true/\min (PyData.depthAll xs) a.depth<=50:=by unfold zk6 at h;simpa [and_assoc] using h
noncomputable def zmo (neg:Bool) (x c:D):M D:=match pd x,c with
 | some a,.tup ds=>match pdL ds with
  | some xs=>if zk6 a xs=true then pure (.bl (if neg then !xs.any (fun y=>PyData.eqv y a) else xs.any fun y=>PyData.eqv y a)) else M.bad
  | none=>M.bad
 | some a,.lst ds=>match pdL ds with
  | some xs=>if zk6 a xs=true then pure (.bl (if neg then !xs.any (fun y=>PyData.eqv y a) else xs.any fun y=>PyData.eqv y a)) else M.bad
  | none=>M.bad
 | _,_=>M.bad
noncomputable def dIn:=zmo false
noncomputable def zjg:=zmo true
theorem zh0 {K:W.Frag} {ι:Io} {H:Hp} {h:Hh} {neg:Bool} {x c:D} {P:D->Io->Hp->Prop} (q:Fin K E ι H (zmo neg x c h) P): ∃ a ds xs,pd x=some a/\pdL ds=some xs/\(c= .tup ds\/c= .lst ds)/\zk6 a xs=true/\
  Fin K E ι H ((pure (.bl (if neg then !xs.any (fun y=>PyData.eqv y a) else xs.any fun y=>PyData.eqv y a)):M D) h) P:=by
 unfold zmo at q
 cases e1:pd x with
 | none=>rw [e1] at q;exact qa0 q
 | some a=>
  rw [e1] at q
  cases c with
  | tup ds=>
   dsimp only at q
   cases e2:pdL ds with
   | none=>rw [e2] at q;exact qa0 q
   | some xs=>
    rw [e2] at q
    obtain ⟨c,q⟩:=Fin.guard q
    exact ⟨a,ds,xs,rfl,e2,.inl rfl,c,q⟩
  | lst ds=>
   dsimp only at q
   cases e2:pdL ds with
   | none=>rw [e2] at q;exact qa0 q
   | some xs=>
    rw [e2] at q
    obtain ⟨c,q⟩:=Fin.guard q
    exact ⟨a,ds,xs,rfl,e2,.inr rfl,c,q⟩
  | _=>exact qa0 q
theorem zl4 (hu:X.A.units+60<cLine):OpR X (compareOp .In) (zdq X.K E dIn):=by
 intro pins s σ H x y v u Q I rx ry ⟨ι,h,d1,d2,r1,r2,hr,q⟩
 obtain ⟨a,ds,xs,e1,e2,ec,c,q2⟩:=zh0 q
 obtain ⟨c1,c2,c3⟩:=zho c
 obtain ⟨as,ra⟩:=zem I r1 rx e1
 rcases ec with rfl | rfl
 ·obtain ⟨bs,rb⟩:=zem I r2 ry (p:= .tuple xs) (by unfold pd;rw [e2];rfl)
  exact SeqAt.in_tuple_reads rb ra c2 c1 (by omega) ⟨.bl _,H,I,rfl,Fin.out hr q2 (.bl _) (by simp [Rel])⟩
 ·obtain ⟨bs,rb⟩:=zem I r2 ry (p:= .list xs) (by unfold pd;rw [e2];rfl)
  exact SeqAt.in_list_reads rb ra c2 c1 (by omega) ⟨.bl _,H,I,rfl,Fin.out hr q2 (.bl _) (by simp [Rel])⟩
theorem ziV (hu:X.A.units+60<cLine):OpR X (compareOp .NotIn) (zdq X.K E zjg):=by
 intro pins s σ H x y v u Q I rx ry ⟨ι,h,d1,d2,r1,r2,hr,q⟩
 obtain ⟨a,ds,xs,e1,e2,ec,c,q2⟩:=zh0 q
 obtain ⟨c1,c2,c3⟩:=zho c
 obtain ⟨as,ra⟩:=zem I r1 rx e1
 rcases ec with rfl | rfl
 ·obtain ⟨bs,rb⟩:=zem I r2 ry (p:= .tuple xs) (by unfold pd;rw [e2];rfl)
  exact SeqAt.notIn_tuple_reads rb ra c2 c1 (by omega) ⟨.bl _,H,I,rfl,Fin.out hr q2 (.bl _) (by simp [Rel])⟩
 ·obtain ⟨bs,rb⟩:=zem I r2 ry (p:= .list xs) (by unfold pd;rw [e2];rfl)
  exact SeqAt.notIn_list_reads rb ra c2 c1 (by omega) ⟨.bl _,H,I,rfl,Fin.out hr q2 (.bl _) (by simp [Rel])⟩
end
end L3
namespace HT
open PySem PySem.Spec PyProof.Rows L2
section
variable {prog:Program} {w:World} {A:Around} {E:Value->Shared->Prop} {s:Shared}
theorem zc6 {t sl:Addr} {items:Array Value} {vl vu:Value} {lo hi:Option Int} {Q:Value->Shared->Prop} (ht:IsTup s.heap t items) (hs:s.heap.IsSliceOf sl vl vu .none) (pl:IsPart vl lo) (pu:IsPart vu hi)
  (hw:sIx items.size 0 lo=0/\sIx items.size items.size hi=items.size) (h:Q (.ref t) s):wpAny (model prog w) A (getItem (.ref t) (.ref sl)) Q E s:=by
 obtain ⟨os,hos,hcs,hds⟩:=id hs
 have hTs:s.TypeIs (.ref sl) "slice":=⟨os,hos,hcs⟩
 unfold getItem
 try with_reducible refine qaO ?_
 first | refine qaW (qaX ?_) | skip
 refine qaW (wpAny_sequenceKey ht.typeIs (by decide) ?_)
 refine qaW (wpAny_callSpecial?_slot (name:=Str.ofString "__getitem__") ht.typeIs PyProof.Rows.slot_tuple_getitem
   (wpAny_call_entry PyProof.Rows.slot_tuple_getitem ht.typeIs entry_tuple_getitem ?_ (args_tuple_getitem _ _)))
 show wpAny _ _ (Builtin.Tuple.tupleItemsOf (.ref t)>>=_) _ _ s
 refine qaW (tupleItemsOf_ ht ?_)
 refine qaW (wpAny_typeOf hTs ?_)
 rw [qa4 (by decide)]
 refine qaW (zcm hs pl pu ?_)
 show wpAny _ _ (if (((sIx items.size 0 lo:Nat):Int)==0 && (1:Int)==1 && (sIx items.size items.size hi - sIx items.size 0 lo)==items.size)=true then _ else _) _ _ s
 rw [hw.1,hw.2,qa4 (by simp)]
 refine qaW (m:=Builtin.Tuple.tupleIsExact _) (qaW (wpAny_typeOf ht.typeIs (qaX ?_)))
 rw [qa4 (by decide)]
 refine qaW (wpAny_rule ?_)
 exact qaX ⟨_,rfl,qaX h⟩
theorem zd0 {sl:Addr} {t:Tok} {n:Nat} {Q:Int×Int×Nat->Shared->Prop} (hs:s.heap.IsSliceOf sl .none .none (.int (-1) t))
  (h:Q ((n:Int) - 1, -1,n) s):wpAny (model prog w) A (Builtin.Slice.sliceApplied (.ref sl) (pure (n:Int))) Q E s:=by
 obtain ⟨os,hos,hcs,hds⟩:=id hs
 unfold Builtin.Slice.sliceApplied Builtin.Slice.sliceFields
 refine qaW (qaW (wpAny_field hos hds (x:= .none) rfl (qaW (wpAny_field hos hds (x:= .none) rfl (qaW (wpAny_field hos hds (x:= .int (-1) t) rfl (qaX ?_)))))))
 refine qaW (slicePart_int ?_)
 show wpAny _ _ (if ((-1:Int)==0)=true then _ else _) _ _ s
 rw [qa5 (by decide)]
 refine qaW (slicePart_none (qaW (slicePart_none (qaW (qaX ?_)))))
 show wpAny _ _ (pure ((n:Int) - 1,(-1:Int),Builtin.Slice.slicePlaces ((n:Int) - 1) (-1) (-1))) _ _ s
 have e:Builtin.Slice.slicePlaces ((n:Int) - 1) (-1) (-1)=n:=by
  unfold Builtin.Slice.slicePlaces
  rw [qa5 (by decide)]
  have:(-(-1):Int)=1:=by decide
  rw [this,Int.ediv_one]
  split<;>omega
 rw [e]
 exact qaX h
theorem zlf (xs:Array Value):((List.range xs.size).filterMap fun (m:Nat)=>xs[((xs.size:Int) - 1+(m:Int)*(-1)).toNat]?).toArray=xs.toList.reverse.toArray:=by
 congr 1
 have e: ∀ n,n<=xs.size->(List.range n).filterMap (fun (m:Nat)=>xs[((xs.size:Int) - 1+(m:Int)*(-1)).toNat]?)=(xs.toList.reverse).take n:=by
  intro n
  induction n with
  | zero=>intro _;simp
  | succ n ih=>
   intro hn
   rw [List.range_succ,List.filterMap_append,ih (by omega),List.take_add_one]
   congr 1
   have e1:((xs.size:Int) - 1+(n:Int)*(-1)).toNat=xs.size - 1 - n:=by omega
   rw [qat,List.filterMap_nil,e1]
   have h1:xs.size - 1 - n<xs.size:=by omega
   rw [List.getElem?_reverse (by simp;omega)]
   simp [h1]
 rw [e _ (qaV _),List.take_of_length_le (by simp)]
theorem zdC {t sl:Addr} {items:Array Value} {tk:Tok} {Q:Value->Shared->Prop} (ht:IsTup s.heap t items) (hs:s.heap.IsSliceOf sl .none .none (.int (-1) tk))
  (h:Q (.ref s.heap.objs.size) {s with heap:=s.heap.push {cls:= .type "tuple",data:= .seq items.toList.reverse.toArray}})
  (hsz:items.size<=sizeLine):wpAny (model prog w) A (getItem (.ref t) (.ref sl)) Q E s:=by
 have htake:sizeOk (.seq items.toList.reverse.toArray):=by
  show items.toList.reverse.toArray.size<=sizeLine
  simpa using hsz
 obtain ⟨os,hos,hcs,hds⟩:=id hs
 have hTs:s.TypeIs (.ref sl) "slice":=⟨os,hos,hcs⟩
 unfold getItem
 try with_reducible refine qaO ?_
 first | refine qaW (qaX ?_) | skip
 refine qaW (wpAny_sequenceKey ht.typeIs (by decide) ?_)
 refine qaW (wpAny_callSpecial?_slot (name:=Str.ofString "__getitem__") ht.typeIs PyProof.Rows.slot_tuple_getitem
   (wpAny_call_entry PyProof.Rows.slot_tuple_getitem ht.typeIs entry_tuple_getitem ?_ (args_tuple_getitem _ _)))
 show wpAny _ _ (Builtin.Tuple.tupleItemsOf (.ref t)>>=_) _ _ s
 refine qaW (tupleItemsOf_ ht ?_)
 refine qaW (wpAny_typeOf hTs ?_)
 rw [qa4 (by decide)]
 refine qaW (zd0 hs ?_)
 show wpAny _ _ (if ((((items.size:Int) - 1)==0 && (-1:Int)==1 && items.size==items.size)=true) then _ else _) _ _ s
 rw [qa5 (by simp),zlf]
 first
  | exact qaW (m:=Builtin.Tuple.tupleExact _) (qaC (qaX ⟨_,rfl,qaX h⟩) htake)
  | exact qaW (m:=Builtin.Tuple.tupleExact _) (qaC (qaW (qaX (qaX ⟨_,rfl,qaX h⟩))) htake)
  | exact qaW (qaW (m:=Builtin.Tuple.tupleExact _) (qaC (qaX (qaX ⟨_,rfl,qaX h⟩)) htake))
  | exact qaW (qaW (m:=Builtin.Tuple.tupleExact _) (qaC (qaX ⟨_,rfl,qaX h⟩) htake))
end
end HT
namespace L2
open PySem PySem.Spec PyProof.Rows
section
variable {X:Cx} {e:Expr} {te:TE} {pos p2:Pos}
theorem zm3:SlR X (fun x lo hi H Q=> ∃ a xs,x= .ref a/\SqT X.K H a xs/\(HT.sIx xs.length 0 lo=0/\HT.sIx xs.length xs.length hi=xs.length)/\Q (.ref a) H):=by
 intro pins s σ H x v vl vu lo hi sl Q I rx hs pl pu h
 obtain ⟨a,xs,rfl,hx,hw,q⟩:=h
 cases rx
 obtain ⟨its,r,ht,hz⟩:=I.tuple hx
 have hlen:its.toArray.size=xs.length:=by rw [qaA];exact r.length.symm
 refine ⟨"tuple",_,PyProof.Rows.slot_tuple_getitem.lookup,ht.typeIs,?_⟩
 exact HT.zc6 ht hs pl pu (by rw [hlen];exact hw) ⟨.ref a,H,I,rfl,q⟩
theorem zqu {st:Expr} (he:PE X e te) (hst:PE X st (tC (.int (-1)))):PE X (.Subscript e (.Slice none none (some st) p2) pos) (fun σ H Q=>te σ H fun x H1=> ∃ a xs,x= .ref a/\SqT X.K H1 a xs/\ ∀ p,H1 p=none->Q (.ref p) (upd H1 p (.tup xs.reverse))):=by
 intro pins s σ H Q I h
 refine Subscript_ (thn (he pins s σ H _ I h) fun v s1 ⟨x,H1,I1,r1,q1⟩=> ?_)
 obtain ⟨a,xs,rfl,hx,q⟩:=q1
 cases r1
 refine wpAny_Slice ?_
 rw [evalPart_none]
 refine qaX (qaX ?_)
 rw [evalPart_some]
 refine thn (hst pins s1 σ H1 (fun z Hz=>z= .int (-1)/\Hz=H1) I1 ⟨rfl,rfl⟩) fun u s2 ⟨z,Hz,I2,rz,ez,eH⟩=> ?_
 subst ez eH
 obtain ⟨t,rfl⟩:=rz
 have I4:Inv X pins σ Hz {s2 with heap:=s2.heap.push {cls:= .type "slice",data:= .fields #[.none,.none,.int (-1) t]}}:=I2.kept (t':=s2.toks) fun b ob q=>qag _ q
 obtain ⟨its,r,ht,hz⟩:=I4.tuple hx
 have hlen:its.toArray.size=xs.length:=by rw [qaA];exact r.length.symm
 show wpAny (model X.prog X.w) X.A (subscriptTail e (.Slice none none (some st) p2) (.ref a) (.ref s2.heap.objs.size)) (EP X pins σ Q) X.xe {s2 with heap:=s2.heap.push {cls:= .type "slice",data:= .fields #[.none,.none,.int (-1) t]}}
 refine tail_any (ops:=[.ref a,.ref s2.heap.objs.size]) ht.typeIs PyProof.Rows.slot_tuple_getitem.lookup (HT.zdC ht ⟨_,qar _ rfl,rfl,rfl⟩ ?_ (by rw [hlen];exact hz)) (by with_unfolding_all rfl)
 refine ⟨.ref _,_,I4.laid (t':=s2.toks) (o:= .tup xs.reverse) (fun b ob q=>qag _ q) (qaV _) ?_,rfl,q _ (I4.hok.fresh (qaV _))⟩
 refine ⟨by rw [List.length_reverse];exact hz,its.reverse,r.reverse,?_⟩
 exact zh7.new _ _
theorem zd1:fillsNumberSlot (.type "tuple") "mul"=pure false:=
 PySem.fillsNumberSlot_seq (id:="tuple.__mul__") (r:=some (.builtin "tuple.__rmul__")) F.slot_tuple_mul.lookup (by decide +kernel) F.slot_tuple_rmul.lookup (by decide +kernel)
theorem zfU:seqRepeat? (.type "tuple")=pure (some (.builtin "tuple.__mul__")):=by
 unfold seqRepeat?
 rw [PySem.seqSlot_of (T:="tuple") (name:="__mul__") (id:="tuple.__mul__") F.slot_tuple_mul.lookup (by decide +kernel),PySem.seqSlot_of (T:="tuple") (name:="__rmul__") (id:="tuple.__rmul__") F.slot_tuple_rmul.lookup (by decide +kernel)]
 rfl
theorem zeS (k:Int) (t:Tok) (l:Addr) (items:Array Value) (n:Nat) (dd:Option Addr) (sl:Array (Option Value)):
  Meets (Builtin.«int.__rmul__» ⟨[.int k t,.ref l],[]⟩) (fun _ R s=>s.heap.get? l=some {cls:= .type "tuple",dict:=dd,data:= .seq items n,slots:=sl}/\R (.ok (.ret Value.notImplemented)) s):=
 .of_wp fun prog w A R s h=>by obtain ⟨hp,g,d,tk,os⟩:=s;obtain ⟨hl,h⟩:=h;wp_walk;exact ⟨_,rfl,h⟩
theorem zjR (k:Int) (t:Tok) (l:Addr) (items:Array Value) (n:Nat) (dd:Option Addr) (sl:Array (Option Value)) (hne:items.isEmpty=false) (hk:2<=k) (hk2:k<1000) (hz:items.size*k.toNat<=sizeLine):
  Meets (Builtin.«tuple.__mul__» ⟨[.ref l,.int k t],[]⟩) (fun _ R s=>s.heap.get? l=some {cls:= .type "tuple",dict:=dd,data:= .seq items n,slots:=sl}/\
    R (.ok (.ret (.ref s.heap.objs.size))) {s with heap:=s.heap.push {cls:= .type "tuple",data:= .seq ((List.replicate k.toNat items).foldl (· ++ ·) #[])}}):=
 .of_wp fun prog w A R s h=>by
  obtain ⟨hp,g,d,tk,os⟩:=s;obtain ⟨hl,h⟩:=h
  unfold Builtin.«tuple.__mul__» 
  wp_walk
  have hk63: ¬(decide (k< -2^63) || decide (k>=2^63))=true:=by
   rw [Bool.or_eq_true,qaD,qaD]
   omega
  rw [qa5 hk63]
  dsimp only
  have ht:IsTup hp l items:=⟨_,hl,rfl,_,rfl⟩
  refine qaW (tupleItemsOf_ ht ?_)
  have h1: ¬(items.isEmpty || k==1)=true:=by
   rw [hne,Bool.false_or,beq_iff_eq]
   omega
  rw [qa5 h1]
  have h2: ¬(decide (k<=0) || items.isEmpty)=true:=by
   rw [hne,Bool.or_false,qaD]
   omega
  rw [qa5 h2]
  have hk0:((k.toNat:Nat):Int)=k:=Int.toNat_of_nonneg (by omega)
  have hm:((items.size:Nat):Int)*k=((items.size*k.toNat:Nat):Int):=by rw [Int.natCast_mul,hk0]
  have hsl:(sizeLine:Nat)=16777216:=by decide
  have h3: ¬((items.size:Int)*k>(2^63 - 1) / 8):=by
   rw [hm]
   omega
  rw [qa5 h3]
  have h4: ¬Builtin.Tuple.tupleTooMany ((items.size:Int)*k)=true:=by
   unfold Builtin.Tuple.tupleTooMany
   rw [hm,qaD]
   omega
  rw [qa5 h4]
  have hsz:sizeOk (.seq (List.foldl (fun x1 x2=>x1++x2) #[] (List.replicate k.toNat items))):=by
   show (List.foldl (fun x1 x2=>x1++x2) #[] (List.replicate k.toNat items)).size<=sizeLine
   have e: ∀ (m:Nat) (acc:Array Value),(List.foldl (fun x1 x2=>x1++x2) acc (List.replicate m items)).size=acc.size+m*items.size:=by
    intro m
    induction m with
    | zero=>intro acc;simp
    | succ m ih=>intro acc;rw [List.replicate_succ,List.foldl_cons,ih,Array.size_append,Nat.succ_mul];omega
   rw [e,Nat.mul_comm]
   simpa using hz
  exact qaW (m:=Builtin.Tuple.tupleExact _) (qaC (qaX ⟨_,rfl,h⟩) hsz)
theorem zoq:OpR X (binaryOp .Mult) (fun x y H Q=> ∃ a k xs,x= .ref a/\y= .int k/\SqT X.K H a xs/\xs≠[]/\2<=k/\k<1000/\xs.length*k.toNat<=sizeLine/\ ∀ p,H p=none->Q (.ref p) (upd H p (.tup (List.replicate k.toNat xs).flatten))):=by
 intro pins s σ H x y v u Q I rx ry h
 obtain ⟨a,k,xs,rfl,rfl,hx,hne,h1,h2,hz,q⟩:=h
 cases rx
 obtain ⟨t,rfl⟩:=ry
 obtain ⟨its,r,ht,_⟩:=I.tuple hx
 have hl:=r.length
 obtain ⟨⟨cls,dd,data,sl⟩,ho,hc,n,hd⟩:=id ht
 simp only at hc hd
 subst hc hd
 have hemp:its.toArray.isEmpty=false:=by
  cases its with
  | nil=>cases r;exact absurd rfl hne
  | cons _ _=>simp
 refine wpAny_binaryOp_repeat_ref (T:="tuple") (U:="int") (by decide) ⟨_,ho,rfl⟩ (fun s'=>typeIs_int s' k t) zd1 F.fills_int_mul F.slot_int_rmul zfU F.slot_int_index.lookup
  (call_meets F.slot_int_rmul (typeIs_int s k t) F.entry_int_rmul (F.args_int_rmul_2 _ _) (zeS k t a its.toArray n dd sl)
    ⟨ho,rfl,⟨_,ho,rfl⟩,call_meets F.slot_tuple_mul ⟨_,ho,rfl⟩ F.entry_tuple_mul (F.args_tuple_mul_2 _ _) (zjR k t a its.toArray n dd sl hemp h1 h2 (by rw [qaA, <-hl];exact hz)) ⟨ho,?_⟩⟩)
 have hnew:List.foldl (fun x1 x2=>x1++x2) #[] (List.replicate k.toNat its.toArray)=(List.replicate k.toNat its).flatten.toArray:=by
  have:=zgF its k.toNat []
  rw [List.nil_append] at this
  exact this
 rw [hnew]
 refine ⟨.ref _,_,I.laid (t':=s.toks) (o:= .tup (List.replicate k.toNat xs).flatten) (fun b ob q=>qag _ q) (qaV _) ?_,rfl,q _ (I.hok.fresh (qaV _))⟩
 exact ⟨by rw [zn1,Nat.mul_comm];exact hz,_,r.rep k.toNat,zh7.new _ _⟩
end
end L2
namespace LT
open PySem PySem.Spec PyProof.Rows
noncomputable abbrev Up (xs:Array Nat):Prop:=xs.toList.Pairwise (· < ·)
theorem Up.lt {xs:Array Nat} (h:Up xs) {i j:Nat} {a b:Nat} (hi:xs[i]? = some a) (hj:xs[j]? = some b) (hij:i<j):a<b:=by
 have hi':xs.toList[i]? = some a:=by simpa using hi
 have hj':xs.toList[j]? = some b:=by simpa using hj
 obtain ⟨h1,e1⟩:=qac.mp hi'
 obtain ⟨h2,e2⟩:=qac.mp hj'
 have:=List.pairwise_iff_getElem.mp h i j h1 h2 hij
 rw [e1,e2] at this
 exact this
theorem zfk {xs:Array Nat} (h:Up xs) (j:Nat): ∀ (fuel lo hi:Nat),hi - lo<=fuel->lo<=hi->hi<=xs.size->(∀ i a,i<lo->xs[i]? = some a->a<j)->(∀ i a,hi<=i->xs[i]? = some a->j<=a)->
  let r:=SetTable.below.go xs j fuel lo hi
  r<=xs.size/\(∀ i a,i<r->xs[i]? = some a->a<j)/\(∀ i a,r<=i->xs[i]? = some a->j<=a)
 | 0,lo,hi,hf,hl,hs,h1,h2=>by
  have e:lo=hi:=by omega
  subst e
  exact ⟨hs,h1,h2⟩
 | fuel+1,lo,hi,hf,hl,hs,h1,h2=>by
  unfold SetTable.below.go
  by_cases hlt:lo<hi
  ·rw [qa4 hlt]
   have hm:(lo+hi) / 2<xs.size:=by omega
   have em:xs[(lo+hi) / 2]? = some xs[(lo+hi) / 2]:=by simp [hm]
   have eg:xs.getD ((lo+hi) / 2) j=xs[(lo+hi) / 2]:=by simp [Array.getD,hm]
   dsimp only
   by_cases hc:xs.getD ((lo+hi) / 2) j<j
   ·rw [qa4 hc]
    refine zfk h j fuel _ hi (by omega) (by omega) hs (fun i a hi' e=> ?_) h2
    rw [eg] at hc
    by_cases z:i=(lo+hi) / 2
    ·subst z;rw [em] at e;cases e;exact hc
    ·exact Nat.lt_trans (h.lt e em (by omega)) hc
   ·rw [qa5 hc]
    refine zfk h j fuel lo _ (by omega) (by omega) (by omega) h1 fun i a hi' e=> ?_
    rw [eg] at hc
    by_cases z:i=(lo+hi) / 2
    ·subst z;rw [em] at e;cases e;omega
    ·have:=h.lt em e (by omega)
     omega
  ·rw [qa5 hlt]
   have e:lo=hi:=by omega
   subst e
   exact ⟨hs,h1,h2⟩
theorem zfh {xs:Array Nat} (h:Up xs) (j:Nat):SetTable.below xs j<=xs.size/\(∀ i a,i<SetTable.below xs j->xs[i]? = some a->a<j)/\(∀ i a,SetTable.below xs j<=i->xs[i]? = some a->j<=a):=
 zfk h j xs.size 0 xs.size (by omega) (Nat.zero_le _) (qaV _) (fun _ _ z=>absurd z (Nat.not_lt_zero _)) fun i a z e=>by
  have:=(qab.mp e).1
  omega
theorem ze0 {xs:Array Nat} (h:Up xs) {k a:Nat} (e:xs[k]? = some a):SetTable.below xs (a+1)=k+1:=by
 obtain ⟨h1,h2,h3⟩:=zfh h (a+1)
 by_cases c:SetTable.below xs (a+1)<=k
 ·have:=h3 k a c e
  omega
 ·by_cases c2:k+1<SetTable.below xs (a+1)
  ·have hl:k+1<xs.size:=by omega
   have e2:xs[k+1]? = some xs[k+1]:=by simp [hl]
   have a1:=h2 (k+1) _ c2 e2
   have a2:=h.lt e e2 (by omega)
   omega
  ·omega
theorem ze2 {xs:Array Nat} (h:Up xs):SetTable.below xs 0=0:=by
 obtain ⟨h1,h2,h3⟩:=zfh h 0
 by_cases c:SetTable.below xs 0=0
 ·exact c
 ·have hl:0<xs.size:=by omega
  exact absurd (h2 0 _ (by omega) (show xs[0]? = some xs[0] by simp [hl])) (Nat.not_lt_zero _)
theorem zkM {xs:Array Nat} (h:Up xs) {j:Nat} (hn:xs[SetTable.below xs j]? ≠ some j):Up (SetTable.insertAt xs (SetTable.below xs j) j):=by
 obtain ⟨h1,h2,h3⟩:=zfh h j
 show (SetTable.insertAt xs (SetTable.below xs j) j).toList.Pairwise (· < ·)
 rw [SetTable.toList_insertAt]
 rw [qaq]
 have hsplit:xs.toList.take (SetTable.below xs j)++xs.toList.drop (SetTable.below xs j)=xs.toList:=List.take_append_drop ..
 have hp:(xs.toList.take (SetTable.below xs j)++xs.toList.drop (SetTable.below xs j)).Pairwise (· < ·):=by rw [hsplit];exact h
 obtain ⟨p1,p2,p3⟩:=qaq.mp hp
 have tk: ∀ a∈xs.toList.take (SetTable.below xs j),a<j:=fun a ha=>by
  obtain ⟨i,hi⟩:=List.mem_iff_getElem?.mp ha
  rw [List.getElem?_take] at hi
  split at hi
  ·rename_i hlt
   exact h2 i a hlt (by simpa using hi)
  ·cases hi
 have dr: ∀ a∈xs.toList.drop (SetTable.below xs j),j<a:=fun a ha=>by
  obtain ⟨i,hi⟩:=List.mem_iff_getElem?.mp ha
  rw [List.getElem?_drop] at hi
  have hi':xs[SetTable.below xs j+i]? = some a:=by simpa using hi
  have a1:=h3 _ a (by omega) hi'
  rcases Nat.lt_or_eq_of_le a1 with z | z
  ·exact z
  ·subst z
   exfalso
   cases i with
   | zero=>exact hn hi'
   | succ i=>
    have hl:=(qab.mp hi').1
    have e0:xs[SetTable.below xs j]? = some xs[SetTable.below xs j]:=by
     have:SetTable.below xs j<xs.size:=by omega
     simp [this]
    have b1:=h3 _ _ (qaV _) e0
    have b2:=h.lt e0 hi' (by omega)
    omega
 refine ⟨p1,qay.mpr ⟨dr,p2⟩,fun a ha b hb=> ?_⟩
 rcases qaP.mp hb with z | z
 ·rw [z];exact tk a ha
 ·exact p3 a ha b z
structure zhh (t:SetTable) (led:Bool):Prop where
 up:Up t.place
 nod:t.dummies= #[]
 led:t.led=led
theorem zhp {j:Nat}:SetTable.has #[] j=false:=by
 unfold SetTable.has
 simp
theorem zkn {t:SetTable} {led:Bool} (g:zhh t led) {j:Nat} (h:t.slot j= .empty):t.place[SetTable.below t.place j]? ≠ some j:=fun e=>by
 unfold SetTable.slot at h
 dsimp only at h
 rw [e] at h
 simp at h
theorem zh6 {t:SetTable} {led:Bool} (g:zhh t led) (f:Nat->Int) (h:Int): ∀ (fuel:Nat) (p:SetTable.Probe) (j:Nat) (d:Option Nat),p.dummy=none->SetTable.probe.go t f h fuel p=some (.empty j d)->t.slot j= .empty/\d=none
 | 0,_,_,_,_,e=>by cases e
 | fuel+1,p,j,d,hp,e=>by
  unfold SetTable.probe.go at e
  have adv: ∀ q:SetTable.Probe,q.dummy=none->(t.advance q).dummy=none:=fun q hq=>by
   unfold SetTable.advance
   split<;>exact hq
  split at e
  ·rename_i hs
   cases e
   exact ⟨hs,hp⟩
  ·rename_i hs
   exfalso
   unfold SetTable.slot at hs
   dsimp only at hs
   rw [g.nod,zhp] at hs
   split at hs<;>simp at hs
  ·split at e
   ·cases e
   ·exact zh6 g f h fuel _ j d (adv p hp) e
theorem zfM {t:SetTable} {led:Bool} (g:zhh t led) {h:Int} {j:Nat} {b:Bool} (e:t.freeSlot h=some (j,b)):t.place[SetTable.below t.place j]? ≠ some j:=by
 unfold SetTable.freeSlot at e
 split at e
 ·rename_i j' d' hpr
  obtain ⟨h1,h2⟩:=zh6 g _ _ _ _ _ _ rfl hpr
  subst h2
  cases e
  exact zkn g h1
 ·cases e
theorem zlI (n:Nat):Up (Array.range n):=by
 show (Array.range n).toList.Pairwise (· < ·)
 rw [Array.toList_range]
 exact List.pairwise_lt_range
theorem zbP {t:SetTable} {led:Bool} (g:zhh t led) (n:Nat):zhh (t.standIn n) led:=⟨zlI n,rfl,g.led⟩
theorem zg0 {t:SetTable} {led:Bool} (g:zhh t led) (es:Array (Int×Value)) (h:Int) (x:Value):zhh (layNew t es h x).2.1 led:=by
 unfold layNew
 split
 ·rename_i slot wasDummy e
  have g2:zhh (t.put slot).1 led:=by
   refine ⟨zkM g.up (zfM g e),?_,g.led⟩
   show (if SetTable.has t.dummies slot then _ else t.dummies)= #[]
   rw [g.nod,zhp]
   rfl
  show zhh ((t.put slot).1.orStandIn _) led
  unfold SetTable.orStandIn
  split
  ·exact g2
  ·exact zbP g2 _
 ·exact zbP g _
theorem zkm {mask finger moves:Nat} {led plain:Bool} {hs:Array Int} {t:SetTable} {o:Array Nat} (e:SetTable.laid mask finger moves led plain hs=some (t,o)):zhh t led:=by
 unfold SetTable.laid at e
 cases z:SetTable.layClean mask hs with
 | none=>rw [z] at e;cases e
 | some owner=>
  rw [z] at e
  have e:some (({mask,place:=(((List.range (mask+1)).filterMap fun j=>(owner.getD j none).map (j, ·)).map (·.1)).toArray,dummies:= #[],finger,led,moves,plain}:SetTable),_)=some (t,o):=e
  cases e
  refine ⟨?_,rfl,rfl⟩
  show (((List.range (mask+1)).filterMap fun j=>(owner.getD j none).map (j, ·)).map (·.1)).toArray.toList.Pairwise (· < ·)
  rw [List.toList_toArray,List.map_filterMap]
  have sub:List.Sublist ((List.range (mask+1)).filterMap fun j=>((owner.getD j none).map (j, ·)).map (·.1)) (List.range (mask+1)):=by
   generalize List.range (mask+1)=l
   induction l with
   | nil=>exact .slnil
   | cons a r ih=>
    rw [qat]
    cases q:owner.getD a none with
    | none=>exact ih.cons a
    | some v=>exact ih.cons₂ a
  exact List.pairwise_lt_range.sublist sub
theorem zfl {t:SetTable} {led:Bool} (g:zhh t led) (es:Array (Int×Value)) (wanted:Nat):zhh (relayAll t es wanted).2.1 led:=by
 unfold relayAll
 split
 ·rename_i t' order e
  have g2:zhh t' t.led:=zkm e
  rw [g.led] at g2
  dsimp only
  split
  ·exact g2
  ·exact zbP g _
 ·exact zbP g _
noncomputable def zcg (w:World):Bool:= !w.params.followText "set-order"
def zfP (prog:Program) (w:World) (h:Heap) (a:Addr) (S:Int->Bool) (n:Nat):Prop:=
 ∃ ob es ep tb,(h.get? a=some ob/\ob.ExactSet/\ob.data= .set es ep tb)/\ElemsOf (intKind prog w) es.toList/\(∀ k,S k=true↔ ∃ e∈es.toList,(intKind prog w).is k e.2=true)/\
  (es.size<scanBound/\tb.fits es.size=true/\es.size=n)/\zhh tb (zcg w)
theorem zfP.move {prog:Program} {w:World} {h h':Heap} {a:Addr} {S S':Int->Bool} {n n':Nat} (g:zfP prog w h a S n) (k: ∀ ob,h.get? a=some ob->h'.get? a=some ob) (e: ∀ k,S k=S' k) (en:n=n'):zfP prog w h' a S' n':=by
 obtain ⟨ob,es,ep,tb,⟨h1,h2,h3⟩,h4,h5,⟨h6,h7,h8⟩,h9⟩:=g
 exact ⟨ob,es,ep,tb,⟨k ob h1,h2,h3⟩,h4,fun z=>by rw [<- e z];exact h5 z,⟨h6,h7,h8.trans en⟩,h9⟩
section
variable {prog:Program} {w:World} {A:Around} {E:Value->Shared->Prop} {s:Shared}
theorem stored {a:Addr} {ob:Obj} {es es':Array (Int×Value)} {ep:Nat} {tb tb':SetTable} {S:Int->Bool} {R:Unit->Shared->Prop} (ho:s.heap.get? a=some ob) (hx:ob.ExactSet) (hd:ob.data= .set es ep tb)
  (hE:ElemsOf (intKind prog w) es'.toList) (hS: ∀ k,S k=true↔ ∃ e∈es'.toList,(intKind prog w).is k e.2=true) (hb:es'.size<scanBound) (hf:tb'.fits es'.size=true) (hg:zhh tb' (zcg w))
  (q: ∀ h',Heap.SameBut a s.heap h'->h'.get? a=some {ob with data:= .set es' (ep+1) tb'}->zfP prog w h' a S es'.size->R () {s with heap:=h'}):wpAny (model prog w) A (storeSet a es' tb') R E s:=by
 have put:=putSet_of es' tb' hd
 have at1:(s.heap.update a (Obj.putSet es' tb')).get? a=some {ob with data:= .set es' (ep+1) tb'}:=by
  have z:=qal (Obj.putSet es' tb') ho (by rw [put];rfl)
  rwa [put] at z
 exact wpAny_storeSet_of ho hd (q _ (Heap.SameBut.update ..) at1 ⟨_,es',ep+1,tb',⟨at1,hx,rfl⟩,hE,hS,⟨hb,hf,rfl⟩,hg⟩) (fits_of_scanBound hb)
theorem zsS {a:Addr} {S:Int->Bool} {n:Nat} {k:Int} {t:Tok} {Q:Bool->Shared->Prop} (g:zfP prog w s.heap a S n) (room:n+1<scanBound)
  (q: ∀ h' b,Heap.SameBut a s.heap h'->zfP prog w h' a (fun z=>S z || decide (z=k)) (if S k then n else n+1)->Q b {s with heap:=h'}):
  wpAny (model prog w) A (setAddHashed a (.int k t) ((intKind prog w).hash k)) Q E s:=by
 have kis:(intKind prog w).is k (.int k t)=true:=intKind_is _ _ _ _
 obtain ⟨ob,es,ep,tb,⟨h1,h2,h3⟩,h4,h5,⟨h6,h7,h8⟩,h9⟩:=g
 have scn:(Value.int k t).scannable=true:=rfl
 unfold setAddHashed setAddHashedIn
 refine qaO (qaW (wpAny_setState_of h1 h3 h7 ?_))
 dsimp only
 rw [qa4 (byScan_of scn h6 h4)]
 refine qaW ?_
 unfold setAddByScan
 refine qaW (wpAny_rule (qaW (wpAny_setScan_of kis h1 h3 h7 h4 ?_)))
 cases fi:List.findIdx? (fun e=>(intKind prog w).is k e.2) es.toList with
 | some j=>
  obtain ⟨lj,pj,_⟩:=List.findIdx?_eq_some_iff_getElem.mp fi
  have inS:S k=true:=(h5 k).mpr ⟨_,List.getElem_mem lj,pj⟩
  refine qaX (qaX ?_)
  have z:=q s.heap false (Heap.SameBut.refl ..) ⟨ob,es,ep,tb,⟨h1,h2,h3⟩,h4,fun y=> ?_,⟨h6,h7,by rw [inS];exact h8⟩,h9⟩
  ·exact z
  ·rw [<- h5 y,Bool.or_eq_true,qaD]
   exact ⟨fun c=>c.elim id fun c=>by rw [c];exact inS,.inl⟩
 | none=>
  have noS:S k=false:=by
   rw [<- Bool.not_eq_true,h5 k]
   rintro ⟨e,he,pe⟩
   have:=List.findIdx?_eq_none_iff.mp fi e he
   rw [pe] at this
   cases this
  have L1:=layNew_perm tb es ((intKind prog w).hash k) (.int k t)
  have L2:=layNew_fits tb es ((intKind prog w).hash k) (.int k t)
  have L3:=zg0 h9 es ((intKind prog w).hash k) (.int k t)
  generalize hl:layNew tb es ((intKind prog w).hash k) (.int k t)=ln at L1 L2 L3 ⊢
  obtain ⟨es1,tb1,wd,gv⟩:=ln
  dsimp only at L1 L2 L3 ⊢
  rw [Array.toList_push] at L1
  have E1:ElemsOf (intKind prog w) es1.toList:=(h4.push kis scn).perm L1
  have M1: ∀ y,(S y || decide (y=k))=true↔ ∃ e∈es1.toList,(intKind prog w).is y e.2=true:=mem_push_iff kis h5 L1
  have Z1:es1.size=n+1:=by
   have z:=L1.length_eq
   rw [qav,qas,qas] at z
   rw [z,h8];rfl
  have B1:es1.size<scanBound:=by rw [Z1];exact room
  have quiet: ∀ (b:Bool) (s1:Shared) (R:Unit->Shared->Prop),R () s1->wpAny (model prog w) A (match b with | true=>rule "set.scan.the-table-gave-way" | false=>pure ()) R E s1:=fun b s1 R z=>by
   cases b
   ·exact qaX z
   ·exact wpAny_rule z
  have fin: ∀ (s1:Shared) (h':Heap),s1={s with heap:=h'}->Heap.SameBut a s.heap h'->zfP prog w h' a (fun y=>S y || decide (y=k)) es1.size->Q true s1:=fun s1 h' e1 sb gg=>by
   subst e1
   have z:=q h' true sb
   rw [noS] at z
   exact z (by rw [Z1] at gg;exact gg)
  refine qaW (quiet _ _ _ ?_)
  have tail: ∀ (gw:Bool->Sem Unit),(∀ (b:Bool) (s1:Shared) (R:Unit->Shared->Prop),R () s1->wpAny (model prog w) A (gw b) R E s1)->wpAny (model prog w) A (do
      storeSet a es1 tb1
      if (!wd && tb1.tooFull)=true then do
        gw (relayAll tb1 es1 (SetTable.grown es1.size)).2.2
        storeSet a (relayAll tb1 es1 (SetTable.grown es1.size)).1 (relayAll tb1 es1 (SetTable.grown es1.size)).2.1
        pure (some true)
      else pure (some true)) (fun r s'=>wpAny (model prog w) A (match r with | some b=>pure b | none=>setAddHashedIn a (.int k t) ((intKind prog w).hash k) 99999) Q E s') E s:=by
   intro gw hgw
   refine qaW (stored h1 h2 h3 E1 M1 B1 L2 L3 fun h' sb at1 gg=> ?_)
   by_cases full:(!wd && tb1.tooFull)=true
   ·rw [qa4 full]
    have P2:=relayAll_perm tb1 es1 (SetTable.grown es1.size)
    have F2:=relayAll_fits tb1 es1 (SetTable.grown es1.size)
    have G2:=zfl L3 es1 (SetTable.grown es1.size)
    generalize relayAll tb1 es1 (SetTable.grown es1.size)=rl at P2 F2 G2 ⊢
    obtain ⟨es2,tb2,gv2⟩:=rl
    dsimp only at P2 F2 G2 ⊢
    have Z2:es2.size=es1.size:=by
     have z:=P2.length_eq
     rwa [qas,qas] at z
    refine qaW (hgw _ _ _ (qaW (stored (s:={s with heap:=h'}) (S:=fun y=>S y || decide (y=k)) at1 h2 rfl (E1.perm P2) (fun y=>(M1 y).trans ?_) (by rw [Z2];exact B1) F2 G2 fun h'' sb2 _ gg2=> ?_)))
    ·exact ⟨fun ⟨e,he,pe⟩=>⟨e,P2.mem_iff.mpr he,pe⟩,fun ⟨e,he,pe⟩=>⟨e,P2.mem_iff.mp he,pe⟩⟩
    ·exact qaX (qaX (fin _ h'' rfl (sb.trans sb2) (by rw [Z2] at gg2;exact gg2)))
   ·rw [qa5 full]
    exact qaX (qaX (fin _ h' rfl sb gg))
  split
  ·rw [hashByValue_scannable 8 scn]
   refine qaW (qaX ?_)
   exact tail _ fun b s1 R z=>by cases b<;>first | exact qaX z | exact wpAny_rule z
  ·refine qaW (qaX ?_)
   exact tail _ fun b s1 R z=>by cases b<;>first | exact qaX z | exact wpAny_rule z
end
section
variable {prog:Program} {w:World} {A:Around} {R:Result->Shared->Prop} {it:Addr} {fp wr:List Addr} {G:Array GenState->Array GenState->Prop} {n:Nat} {P:Nat->Value->Prop} {St:Nat->Shared->Prop}
theorem zse (W:WalksS prog w A.in1 it fp wr G n P St) (a:Addr) (ha:a∉fp) (val:Nat->Int) (hval: ∀ i v,P i v-> ∃ t,v= .int (val i) t) (room:n+1<scanBound):
  ∀ (left i:Nat) (s:Shared),n - i=left->i<=n->St i s->zfP prog w s.heap a (fun z=>(firstMet val i).any (· == z)) (firstMet val i).length->
   (∀ s',Moved (a::wr) G s s'->zfP prog w s'.heap a (fun z=>(firstMet val n).any (· == z)) (firstMet val n).length->R (.ok (.ret .none)) s')->
   codeAny (model prog w) A (.builtin "set.update.loop" ⟨[.ref a,.ref it],[]⟩) R s:=by
 have awr:a∉wr:=fun z=>ha (W.sub _ z)
 have more: ∀ b∈wr,b∈a::wr:=fun b z=> .tail _ z
 intro left
 induction left with
 | zero=>
  intro i s hleft hin st g q
  obtain rfl:i=n:=by omega
  refine codeAny_builtin F.entry_set_update_loop ?_
  rw [qap F.plain_set_update_loop _]
  show wpAny _ _ (pyNext (.ref it)>>=_) _ _ _
  refine qaW (W.done s _ _ st fun s' mv=> ?_)
  exact qaX (q s' (mv.mono more) (g.move (fun ob e=>mv.heap a ob awr e) (fun _=>rfl) rfl))
 | succ left ih=>
  intro i s hleft hin st g q
  have hi:i<n:=by omega
  refine codeAny_builtin F.entry_set_update_loop ?_
  rw [qap F.plain_set_update_loop _]
  show wpAny _ _ (pyNext (.ref it)>>=_) _ _ _
  refine qaW (W.item i s _ _ hi st fun v s1 pv st1 mv=> ?_)
  obtain ⟨t,rfl⟩:=hval i v pv
  have g1:zfP prog w s1.heap a (fun z=>(firstMet val i).any (· == z)) (firstMet val i).length:=g.move (fun ob e=>mv.heap a ob awr e) (fun _=>rfl) rfl
  show wpAny _ _ (holding [Value.int (val i) t] (setAdd a (.int (val i) t))>>=_) _ _ _
  refine qaW (qaO ?_)
  unfold setAdd
  refine qaO (qaW ((intKind prog w).pyHash (k:=val i) (intKind_is _ _ _ _) ?_))
  have few:=firstMet_length_le val i
  refine zsS (s:={s1 with toks:=s1.toks+1}) g1 (by omega) fun h2 b sb g2=> ?_
  have g3:zfP prog w h2 a (fun z=>(firstMet val (i+1)).any (· == z)) (firstMet val (i+1)).length:=
   g2.move (fun _ e=>e) (fun z=>by rw [firstMet_succ,step_any]) (by rw [firstMet_succ,step_length])
  have off: ∀ b,b≠a->h2.get? b=s1.heap.get? b:=fun b hb=>sb.2 b hb
  refine qaX ⟨plainId_quiet F.plain_set_update_loop _,ih (i+1) _ (by omega) hi (W.frame _ s1 _ _ st1 (Nat.le_succ _) fun b hb ob e=> ?_) g3 fun s3 mv3 g4=> ?_⟩
  ·rw [off b fun z=>ha (z▸hb)]
   exact e
  ·refine q s3 (.trans W.gtrans ((mv.mono more).then_heap (Nat.le_succ _) fun b ob hb e=> ?_) mv3) g4
   rw [off b fun z=>hb (z▸ .head _)]
   exact e
end
section
variable {prog:Program} {w:World} {A:Around} {E:Value->Shared->Prop} {s:Shared}
theorem zmH (h:Heap):zfP prog w (h.push {cls:= .type "set",dict:=none,data:= .set #[] 0 (.fresh 0 0 (zcg w))}) h.objs.size (fun _=>false) 0:=
 ⟨_, #[],0,_,⟨qar _ rfl,⟨rfl,rfl,rfl⟩,rfl⟩,fun e he=>by simp at he,fun k=>by simp,⟨by decide,rfl,rfl⟩,⟨List.Pairwise.nil,rfl,rfl⟩⟩
theorem zsO (x:Value) {Q:Value->Shared->Prop} (q:Q (.ref s.heap.objs.size) {s with heap:=s.heap.push {cls:= .type "set",dict:=none,data:= .set #[] 0 (.fresh 0 0 (zcg w))}}):
  codeAny (model prog w) A (.call (.builtin "set.__new__") ⟨[.type "set",x],[]⟩) (wants Q E) s:=by
 refine codeAny_of_tree ?_
 show wpAny _ _ (do checkBuiltinCall "set.__new__" ⟨[.type "set",x],[]⟩;again (.builtin "set.__new__" ⟨[.type "set",x],[]⟩)) _ _ _
 refine qaW (wpAny_of_eq (F.newCall_set_1 x) (qaX ⟨plainId_quiet F.plain_set_new _,codeAny_builtin F.entry_set_new ?_⟩))
 rw [qap F.plain_set_new _]
 unfold Builtin.«set.__new__» Builtin.Frozenset.newClass
 have self:=sub_set_self
 obtain ⟨hp,gs,dr,tk,os⟩:=s
 dsimp only
 wp_walk
 refine wpAny_askSetting (qaX ?_)
 dsimp only
 simp only [newObj]
 exact qaW (wpAny_alloc (qaX (qaX q)))
theorem zsi {l:Addr} {T:String} {items:Array Value} {ns:List Int} {Q:Value->Shared->Prop} (hh:A.handled=none) (hT:(T="list"/\s.heap.IsList l items)\/(T="tuple"/\s.heap.IsTuple l items)) (hi:IntsAre items.toList ns) (room:items.size+1<scanBound)
  (q: ∀ (h':Heap) (tk:Nat),zfP prog w h' s.heap.objs.size (fun z=>(firstMet (fun i=>ns.getD i 0) items.size).any (· == z)) (firstMet (fun i=>ns.getD i 0) items.size).length->(∀ b ob,s.heap.get? b=some ob->h'.get? b=some ob)->
    Q (.ref s.heap.objs.size) {s with heap:=h',toks:=tk}):wpAny (model prog w) A (call (.type "set") [.ref l]) Q E s:=by
 obtain ⟨c,tl,hmro⟩:=F.called_set.mro
 have hmade:=F.called_set.made
 have hsub:=F.called_set.sub
 refine wpAny_call (codeAny_of_tree ?_)
 show wpAny _ _ (callAny (.type "set") _) _ _ _
 refine qaX ⟨Code.quiet_builtin _ (by decide +kernel),codeAny_builtin F.entry_type_call ?_⟩
 rw [Around.under_plain (weight_type_call_type "set" [.ref l] []) rfl]
 have hnt:=F.called_set.notType
 have hcc:=F.called_set.canCreate
 have htc:=F.typeCall_set_1 (.ref l)
 repeat' (first | assumption | wp_step)
 refine codeAny_mono (zsO (.ref l) (E:=E) (Q:=fun v s1=>v= .ref s.heap.objs.size/\s1={s with heap:=s.heap.push {cls:= .type "set",dict:=none,data:= .set #[] 0 (.fresh 0 0 (zcg w))}}) ⟨rfl,rfl⟩) fun r s1 hr=> ?_
 cases r with
 | error e=>exact hr
 | ok fl=>
  cases fl with
  | ret v=>
   obtain ⟨rfl,rfl⟩:=hr
   have laid:(s.heap.push {cls:= .type "set",dict:=none,data:= .set #[] 0 (.fresh 0 0 (zcg w))}).get? s.heap.objs.size=some {cls:= .type "set",dict:=none,data:= .set #[] 0 (.fresh 0 0 (zcg w))}:=qar _ rfl
   have isSet:Shared.TypeIs {s with heap:=s.heap.push {cls:= .type "set",dict:=none,data:= .set #[] 0 (.fresh 0 0 (zcg w))}} (.ref s.heap.objs.size) "set":=⟨_,laid,rfl⟩
   have hli:=F.called_set.init.lookup
   have hbi:=F.called_set.init.bind (.ref s.heap.objs.size)
   repeat' (first | assumption | wp_step)
   refine codeAny_mono (codeAny_call_builtin (R:=wants (fun z s2=>z= .none/\ ∃ h' tk,s2={s with heap:=h',toks:=tk}/\
       zfP prog w h' s.heap.objs.size (fun z=>(firstMet (fun i=>ns.getD i 0) items.size).any (· == z)) (firstMet (fun i=>ns.getD i 0) items.size).length/\(∀ b ob,s.heap.get? b=some ob->h'.get? b=some ob)) E) F.called_set.init.plain F.entry_set_init (check_set_init_1 isSet ?_)) fun r2 s2 hr2=> ?_
   ·have keepL: ∀ ob,s.heap.get? l=some ob->(s.heap.push {cls:= .type "set",dict:=none,data:= .set #[] 0 (.fresh 0 0 (zcg w))}).get? l=some ob:=fun ob e=>qag _ e
    have hval: ∀ (i:Nat) (v:Value),items[i]? = some v-> ∃ t,v= .int ((fun i=>ns.getD i 0) i) t:=fun i v hv=>IntsAre.int_at hi i v (by rw [Array.getElem?_toList];exact hv)
    have hh3:A.in1.in1.in1.handled=none:=by simp [hh]
    have done1: ∀ (l0:Addr) (h0:Heap) (s':Shared),l0=s.heap.objs.size->Moved [l0,(s.heap.push {cls:= .type "set",dict:=none,data:= .set #[] 0 (.fresh 0 0 (zcg w))}).objs.size] (fun a b=>b=a) {s with heap:=h0} s'->(∀ b ob,s.heap.get? b=some ob->h0.get? b=some ob)->
      (∀ b ob,s.heap.get? b=some ob->s'.heap.get? b=some ob)/\s'={s with heap:=s'.heap,toks:=s'.toks}:=fun l0 h0 s' e0 mv k0=>by
     refine ⟨fun b ob e=>mv.heap b ob (fun z=> ?_) (k0 b ob e),?_⟩
     ·have lt:=qaQ e
      rw [qaL,e0] at z
      simp only [qaP,qaF,or_false] at z
      rcases z with z | z
      ·exact qaN _ (z▸lt)
      ·exact qaN _ (Nat.lt_of_succ_lt (z▸lt))
     ·obtain ⟨h',g',d',tk',os'⟩:=s'
      have eg:g'=s.gens:=mv.gens
      have ed:d'=s.drawn:=mv.drawn
      have eo:os'=s.os:=mv.os
      subst eg ed eo
      rfl
    unfold Builtin.«set.__init__» noKeywords Builtin.Frozenset.updateFrom
    generalize hPI:pyIter=PI
    rcases hT with ⟨rfl,hl⟩ | ⟨rfl,hl⟩
    ·obtain ⟨⟨ocl,odi,oda,osl⟩,hol,hcl,nl,hdl⟩:=hl
     simp only at hcl hdl
     subst hcl hdl
     have hol':=keepL _ hol
     have f1:=F.sub_list_set
     have f2:=F.sub_list_frozenset
     have f3:(Value.type "list"==Value.type "dict")=false:=by decide
     wp_walk
     subst hPI
     have hl1:(s.heap.push {cls:= .type "set",dict:=none,data:= .set #[] 0 (.fresh 0 0 (zcg w))}).IsList l items:=⟨_,hol',rfl,nl,rfl⟩
     refine wpAny_pyIter_list hl1 ?_
     refine qaW (wpAny_runValue ?_)
     have ltl:l<s.heap.objs.size:=qaQ hol
     have szp:(s.heap.push {cls:= .type "set",dict:=none,data:= .set #[] 0 (.fresh 0 0 (zcg w))}).objs.size=s.heap.objs.size+1:=qaL ..
     have ne1:l≠(s.heap.push {cls:= .type "set",dict:=none,data:= .set #[] 0 (.fresh 0 0 (zcg w))}).objs.size:=by rw [szp];exact qaR (Nat.lt_succ_of_lt ltl)
     have ne2:s.heap.objs.size∉[(s.heap.push {cls:= .type "set",dict:=none,data:= .set #[] 0 (.fresh 0 0 (zcg w))}).objs.size,l]:=by
      rw [szp]
      simp only [qaP,qaF,or_false]
      rintro (z | z)
      ·exact Nat.succ_ne_self _ z.symm
      ·exact qaN _ (z▸ltl)
     refine zse ((Walks.list hh3 _ l ne1 items).toS) s.heap.objs.size ne2 (fun i=>ns.getD i 0) hval room _ 0 _ rfl (Nat.zero_le _) ⟨⟨_,qar _ rfl,rfl,rfl⟩,hl1.push _⟩ ?g0 fun s' mv gg=> ?_
     case g0=>exact (zmH s.heap).move (fun ob e=>qag _ e) (fun _=>rfl) rfl
     obtain ⟨k1,k2⟩:=done1 _ _ s' rfl mv fun b ob e=>qag _ (qag _ e)
     exact qaX (qaX ⟨rfl,s'.heap,s'.toks,k2,gg,k1⟩)
    ·obtain ⟨⟨ocl,odi,oda,osl⟩,hol,hcl,nl,hdl⟩:=hl
     simp only at hcl hdl
     subst hcl hdl
     have hol':=keepL _ hol
     have f1:=F.sub_tuple_set
     have f2:=F.sub_tuple_frozenset
     have f3:(Value.type "tuple"==Value.type "dict")=false:=by decide
     wp_walk
     subst hPI
     have hl1:(s.heap.push {cls:= .type "set",dict:=none,data:= .set #[] 0 (.fresh 0 0 (zcg w))}).IsTuple l items:=⟨_,hol',rfl,nl,rfl⟩
     refine wpAny_pyIter_tuple hl1 ?_
     refine qaW (wpAny_runValue ?_)
     have ltl:l<s.heap.objs.size:=qaQ hol
     have szp:(s.heap.push {cls:= .type "set",dict:=none,data:= .set #[] 0 (.fresh 0 0 (zcg w))}).objs.size=s.heap.objs.size+1:=qaL ..
     have ne1:l≠(s.heap.push {cls:= .type "set",dict:=none,data:= .set #[] 0 (.fresh 0 0 (zcg w))}).objs.size:=by rw [szp];exact qaR (Nat.lt_succ_of_lt ltl)
     have ne2:s.heap.objs.size∉[(s.heap.push {cls:= .type "set",dict:=none,data:= .set #[] 0 (.fresh 0 0 (zcg w))}).objs.size,l]:=by
      rw [szp]
      simp only [qaP,qaF,or_false]
      rintro (z | z)
      ·exact Nat.succ_ne_self _ z.symm
      ·exact qaN _ (z▸ltl)
     refine zse ((Walks.tuple hh3 _ l ne1 items).toS) s.heap.objs.size ne2 (fun i=>ns.getD i 0) hval room _ 0 _ rfl (Nat.zero_le _) ⟨⟨_,qar _ rfl,rfl,rfl⟩,⟨_,qag _ hol',rfl,nl,rfl⟩⟩ ?g0 fun s' mv gg=> ?_
     case g0=>exact (zmH s.heap).move (fun ob e=>qag _ e) (fun _=>rfl) rfl
     obtain ⟨k1,k2⟩:=done1 _ _ s' rfl mv fun b ob e=>qag _ (qag _ e)
     exact qaX (qaX ⟨rfl,s'.heap,s'.toks,k2,gg,k1⟩)
   ·cases r2 with
    | error e=>exact hr2
    | ok fl2=>
     cases fl2 with
     | ret z=>
      obtain ⟨rfl,h',tk,rfl,gg,k1⟩:=hr2
      repeat' (first | assumption | wp_step)
      exact q _ _ gg k1
     | _=>exact hr2.elim
  | _=>exact hr.elim
end
theorem zaG:Slot "set_iterator" "__next__" "set_iterator.__next__":= .of (owner:="set_iterator") (n:="__next__") (by rw [typeLookup_type,builtinLookup_eq_fast];kernel_rfl) (by decide +kernel) (by decide +kernel) (by decide +kernel) (by first | exact .inl (by decide +kernel) | exact .inr (by decide +kernel)) (by rw [isSubtype_type];kernel_rfl)
theorem zc9:Slot "set_iterator" "__iter__" "set_iterator.__iter__":= .of (owner:="set_iterator") (n:="__iter__") (by rw [typeLookup_type,builtinLookup_eq_fast];kernel_rfl) (by decide +kernel) (by decide +kernel) (by decide +kernel) (by first | exact .inl (by decide +kernel) | exact .inr (by decide +kernel)) (by rw [isSubtype_type];kernel_rfl)
theorem zbZ:entryFor table "set_iterator.__next__"=some Builtin.«set_iterator.__next__» := entryFor_of_tree (by kernel_rfl)
theorem zeR:entryFor table "set_iterator.__iter__"=some Builtin.«dict_keyiterator.__iter__» := entryFor_alias (id':="dict_keyiterator.__iter__") (by kernel_rfl) rfl (by decide +kernel) (by kernel_rfl)
theorem zcd (a:Value):argsOk "set_iterator.__next__" ⟨[a],[]⟩:=by unfold argsOk;kernel_rfl
theorem zfw (a:Value):argsOk "set_iterator.__iter__" ⟨[a],[]⟩:=by unfold argsOk;kernel_rfl
theorem zeL:entryFor table "set.__iter__"=some Builtin.«frozenset.__iter__» := entryFor_alias (id':="frozenset.__iter__") (by kernel_rfl) rfl (by decide +kernel) (by kernel_rfl)
def SIt (h:Heap) (it a:Addr) (first:Value) (i n ep:Nat):Prop:=h.get? it=some {cls:= .type "set_iterator",dict:=none,data:= .fields #[first,.int i 0,.ref a,.int n 0,.int ep 0],slots:= #[]}
structure zh3 (h:Heap) (a:Addr) (es:Array (Int×Value)) (ep:Nat) (tb:SetTable):Prop where
 at_: ∃ ob,h.get? a=some ob/\ob.ExactSet/\ob.data= .set es ep tb
 fits:tb.fits es.size=true
section
variable {prog:Program} {w:World} {A:Around} {E:Value->Shared->Prop} {s:Shared}
theorem zju {it a:Addr} {first:Value} {i n ep:Nat} {es:Array (Int×Value)} {tb:SetTable} {Q:Option Value->Shared->Prop} (hI:SIt s.heap it a first i n ep) (hS:zh3 s.heap a es ep tb) (hn:es.size=n) (slot:Nat) (hf:first= .int slot 0)
  (q:wpAny (model prog w) A.in1 (do
    match<-setNext a slot i ep with
    | some (x,next)=>
      setField (.ref it) 0 (rawInt next)
      setField (.ref it) 1 (rawInt ((i:Int)+1))
      ret x
    | none=>setField (.ref it) 2 .none;raiseNew (<- newExc (.type "StopIteration") [])) (fun f s'=> ∃ v,f= .done (.ret v)/\Q (some v) s') (fun e s'=>wpAny (model prog w) A (do if<-isInstance e (.type "StopIteration") then pure none else throw e) Q E s') s):
  wpAny (model prog w) A (pyNext (.ref it)) Q E s:=by
 obtain ⟨ob,ho,hx,hd⟩:=hS.at_
 subst hf
 have tI:s.TypeIs (.ref it) "set_iterator":=⟨_,hI,rfl⟩
 unfold pyNext
 refine qaW (wpAny_attempt (wpAny_callSpecial?_slot (name:=Str.ofString "__next__") tI zaG (wpAny_call_entry zaG tI zbZ ?_ (zcd _))))
 unfold Builtin.«set_iterator.__next__»
 refine qaW (m:=slotArgs "__next__" 0 _) (qaX ?_)
 refine qaW (m:=fieldsOf (.ref it)) ?_
 unfold fieldsOf
 refine qaW (wpAny_load hI (qaX ?_))
 refine qaW (wpAny_setEntries_of ho hd hS.fits ?_)
 have same: ¬(((es.size:Nat):Int) != (n:Int))=true:=by rw [hn];simp
 rw [qa5 same]
 exact qaZ q (fun f s' ⟨v,e,z⟩=>⟨v,e,qaX z⟩) fun e s' z=>z
theorem ziP {it:Addr} {r:Shared->Prop} {Q:Option Value->Shared->Prop} (hh:A.handled=none) (q: ∀ h',(∀ b ob,s.heap.get? b=some ob->h'.get? b=some ob)->Q none {s with heap:=h'}):
  wpAny (model prog w) A.in1 (do raiseNew (<- newExc (.type "StopIteration") []):Sem PySem.Fin) (fun f s'=> ∃ v,f= .done (.ret v)/\Q (some v) s') (fun e s'=>wpAny (model prog w) A (do if<-isInstance e (.type "StopIteration") then pure none else throw e) Q E s') s:=by
 refine qaW ?_
 simp only [newExc,newTuple]
 refine qaW (qaC ?_ (by size_fits))
 refine qaW (m:=firstArgMember _ _) (wpAny_of_eq (a:=Value.none) (by first | rfl | (simp only [firstArgMember];rfl)) ?_)
 refine qaC ?_ (by size_fits)
 simp only [raiseNew]
 refine qaW (wpAny_handled ?_)
 rw [show A.in1.handled=none from hh]
 refine qaW (qaX (wpAny_throw ?_))
 refine qaW (wpAny_isInstance (T:="StopIteration") (b:=true) ⟨_,qar _ rfl,rfl⟩ isSubtype_stop ?_)
 exact qaX (q _ fun b ob e=>qag _ (qag _ e))
theorem SIt.set {h h':Heap} {it a:Addr} {first:Value} {i n ep:Nat} (x:SIt h it a first i n ep):it<h.objs.size:=qaQ x
theorem ze3 {es:Array (Int×Value)} {tb:SetTable} (hf:tb.fits es.size=true):tb.place.size=es.size:=by
 unfold SetTable.fits at hf
 simp only [qaG,beq_iff_eq] at hf
 exact hf.1
theorem zdn {a:Addr} {ep i slot:Nat} {es:Array (Int×Value)} {tb:SetTable} {R:Option (Value×Nat)->Shared->Prop} (hS:zh3 s.heap a es ep tb) (led:tb.led=true) (bt:w.params.followText "set-order"=false) (pl:(!tb.plain && decide (es.size>1))=false)
  (q:R (match es[SetTable.below tb.place slot]?, tb.place[SetTable.below tb.place slot]? with | some (_,x),some j=>some (x,j+1) | _,_=>none) s):wpAny (model prog w) A (setNext a slot i ep) R E s:=by
 obtain ⟨ob,ho,hx,hd⟩:=hS.at_
 unfold setNext
 refine qaW (wpAny_setState_of ho hd hS.fits ?_)
 dsimp only
 unfold setsByText
 refine qaW (qaW (wpAny_askSetting (qaX ?_)))
 dsimp only
 rw [show (model prog w).w.params.followText "set-order"=false from bt]
 simp only [qax,if_false]
 show wpAny _ _ (if (!tb.plain && decide (es.size>1))=true then _ else _) _ _ _
 rw [qa5 (by rw [pl];exact Bool.false_ne_true)]
 refine qaW ?_
 show wpAny _ _ (if (!tb.led && !es.isEmpty)=true then _ else _) _ _ _
 rw [qa5 (by rw [led];exact Bool.false_ne_true)]
 exact qaX (qaX q)
theorem zdR {a:Addr} {ep i slot:Nat} {es:Array (Int×Value)} {tb:SetTable} {R:Option (Value×Nat)->Shared->Prop} (hS:zh3 s.heap a es ep tb) (bt:w.params.followText "set-order"=true)
  (q:R (((pickOrder (w.params.setOrder a ep) es)[i]?).map fun e=>(e.2,slot)) s):wpAny (model prog w) A (setNext a slot i ep) R E s:=by
 obtain ⟨ob,ho,hx,hd⟩:=hS.at_
 unfold setNext
 refine qaW (wpAny_setState_of ho hd hS.fits ?_)
 dsimp only
 unfold setsByText
 refine qaW (qaW (wpAny_askSetting (qaX ?_)))
 dsimp only
 rw [show (model prog w).w.params.followText "set-order"=true from bt]
 simp only [if_true]
 rw [qa5 (by simp)]
 refine qaW ?_
 unfold setWalk
 refine qaW (wpAny_setState_of ho hd hS.fits ?_)
 dsimp only
 unfold setsByText
 refine qaW (qaW (wpAny_askSetting (qaX ?_)))
 dsimp only
 rw [show (model prog w).w.params.followText "set-order"=true from bt]
 simp only [if_true]
 refine qaW (wpAny_askSetting (qaX (qaX q)))
theorem zjm {it a:Addr} {n ep i slot nx:Nat} {x:Value} {es:Array (Int×Value)} {tb:SetTable} {Q:Option Value->Shared->Prop} (hI:SIt s.heap it a (.int slot 0) i n ep) (hS:zh3 s.heap a es ep tb) (hn:es.size=n)
  (st: ∀ (R:Option (Value×Nat)->Shared->Prop) (E':Value->Shared->Prop),R (some (x,nx)) s->wpAny (model prog w) A.in1 (setNext a slot i ep) R E' s)
  (q: ∀ h',SIt h' it a (.int nx 0) (i+1) n ep->Heap.SameBut it s.heap h'->Q (some x) {s with heap:=h'}):wpAny (model prog w) A (pyNext (.ref it)) Q E s:=by
 refine zju hI hS hn slot rfl (qaW (st _ _ ?_))
 dsimp only
 refine qaW (wpAny_setField_rec hI (by simp) fun h1 a1 sb1=> ?_)
 refine qaW (wpAny_setField_rec (s:={s with heap:=h1}) a1 (by simp) fun h2 a2 sb2=> ?_)
 refine qaX ⟨x,rfl,q h2 ?_ (sb1.trans sb2)⟩
 unfold SIt
 rw [a2]
 simp [rawInt]
theorem zmb {it a:Addr} {n ep i slot:Nat} {es:Array (Int×Value)} {tb:SetTable} {Q:Option Value->Shared->Prop} (hh:A.handled=none) (hI:SIt s.heap it a (.int slot 0) i n ep) (hS:zh3 s.heap a es ep tb) (hn:es.size=n)
  (st: ∀ (R:Option (Value×Nat)->Shared->Prop) (E':Value->Shared->Prop),R none s->wpAny (model prog w) A.in1 (setNext a slot i ep) R E' s)
  (q: ∀ h',(∀ b ob,b≠it->s.heap.get? b=some ob->h'.get? b=some ob)->Q none {s with heap:=h'}):wpAny (model prog w) A (pyNext (.ref it)) Q E s:=by
 refine zju hI hS hn slot rfl (qaW (st _ _ ?_))
 dsimp only
 refine qaW (wpAny_setField_rec hI (by simp) fun h1 a1 sb1=> ?_)
 exact ziP (r:=fun _=>True) (it:=it) (s:={s with heap:=h1}) hh fun h' k=>q h' fun b ob hb e=>k b ob ((sb1.2 b hb).trans e)
end
theorem zcG {α:Type}: ∀ {l:List α} {i:Nat} {x:α},l[i]? = some x->List.Perm l (x::l.eraseIdx i)
 | [],_,_,e=>by simp at e
 | a::r,0,x,e=>by simp at e;subst e;exact .rfl
 | a::r,i+1,x,e=>by
  have e:r[i]? = some x:=by simpa using e
  exact ((zcG e).cons a).trans (.swap x a _)
theorem zdW {α:Type} {l:List α} {i:Nat} {x:α} (e:l[i]? = some x):(l.eraseIdx i).length+1=l.length:=by
 have:=(zcG e).length_eq
 rw [qaE] at this
 exact this.symm
theorem zgd {α:Type} (nx:Nat->Nat): ∀ (fuel k:Nat) (left:List α) (out:Array α),left.length=fuel->List.Perm (pickOrder.go nx fuel k left out).toList (out.toList++left)
 | 0,k,left,out,h=>by
  have:left=[]:=List.length_eq_zero_iff.mp h
  subst this
  simp [pickOrder.go]
 | fuel+1,k,left,out,h=>by
  unfold pickOrder.go
  have hl:nx k % left.length<left.length:=Nat.mod_lt _ (by omega)
  have e:left[nx k % left.length]? = some left[nx k % left.length]:=by simp [hl]
  rw [e]
  dsimp only
  have hz:=zdW e
  refine (zgd nx fuel (k+1) _ _ (by omega)).trans ?_
  rw [Array.toList_push,List.append_assoc]
  exact List.Perm.append_left _ (zcG e).symm
theorem zb0 {α:Type} (nx:Nat->Nat) (xs:Array α):List.Perm (pickOrder nx xs).toList xs.toList:=by
 have:=zgd nx xs.size 0 xs.toList #[] (by simp)
 simpa [pickOrder] using this
section
variable {prog:Program} {w:World} {A:Around} {E:Value->Shared->Prop} {s:Shared}
theorem zix {src:Source} {n:Nat} {Q:Nat->Shared->Prop} (hn:n≠0) (q: ∀ k d,k<n->Q k {s with drawn:=d}):wpAny (model prog w) A (choose src n) Q E s:=fun Γ p hΓ=>⟨hn,q _ _ (Nat.mod_lt _ (Nat.pos_of_ne_zero hn))⟩
theorem zdS {α:Type}: ∀ (fuel:Nat) (xs:List α) (s:Shared) (Q:List α->Shared->Prop),xs.length<=fuel->(∀ ys d,List.Perm ys xs->Q ys {s with drawn:=d})->wpAny (model prog w) A (drawOrder fuel xs) Q E s
 | 0,xs,s,Q,h,q=>by
  have:xs=[]:=List.length_eq_zero_iff.mp (by omega)
  subst this
  unfold drawOrder
  exact qaX (q [] s.drawn .rfl)
 | fuel+1,[],s,Q,h,q=>by
  unfold drawOrder
  exact qaX (q [] s.drawn .rfl)
 | fuel+1,x::r,s,Q,h,q=>by
  unfold drawOrder
  refine qaW (zix (by simp) fun k d hk=> ?_)
  have e:(x::r)[k]? = some (x::r)[k]:=by simp [hk]
  rw [e]
  dsimp only
  have hz:=zdW e
  refine qaW (zdS fuel ((x::r).eraseIdx k) {s with drawn:=d} _ (by omega) fun ys d' p=>qaX ?_)
  exact q _ d' ((p.cons _).trans (zcG e).symm)
theorem ziD {it a tp:Addr} {n ep i p:Nat} {x:Value} {es:Array (Int×Value)} {tb:SetTable} {ps:Array Value} {Q:Option Value->Shared->Prop} (hI:SIt s.heap it a (.ref tp) i n ep) (hS:zh3 s.heap a es ep tb) (hn:es.size=n)
  (hT:s.heap.get? tp=some {cls:= .type "tuple",data:= .seq ps}) (hp:ps[i]? = some (.int (p:Nat) 0)) (he:(es[p]?).map (·.2)=some x)
  (q: ∀ h',SIt h' it a (.ref tp) (i+1) n ep->Heap.SameBut it s.heap h'->Q (some x) {s with heap:=h'}):wpAny (model prog w) A (pyNext (.ref it)) Q E s:=by
 obtain ⟨ob,ho,hx,hd⟩:=hS.at_
 have tI:s.TypeIs (.ref it) "set_iterator":=⟨_,hI,rfl⟩
 unfold pyNext
 refine qaW (wpAny_attempt (wpAny_callSpecial?_slot (name:=Str.ofString "__next__") tI zaG (wpAny_call_entry zaG tI zbZ ?_ (zcd _))))
 unfold Builtin.«set_iterator.__next__»
 refine qaW (m:=slotArgs "__next__" 0 _) (qaX ?_)
 refine qaW (m:=fieldsOf (.ref it)) ?_
 unfold fieldsOf
 refine qaW (wpAny_load hI (qaX ?_))
 refine qaW (wpAny_setEntries_of ho hd hS.fits ?_)
 have same: ¬(((es.size:Nat):Int) != (n:Int))=true:=by rw [hn];simp
 rw [qa5 same]
 refine qaW (m:=seqItems? (.ref tp)) ?_
 unfold seqItems?
 refine qaW (wpAny_load hT (qaX ?_))
 dsimp only
 rw [show ((i:Nat):Int).toNat=i from qaB i,hp]
 dsimp only
 refine qaW (m:=setNextDrawn a _ _) ?_
 unfold setNextDrawn
 refine qaW (wpAny_setState_of ho hd hS.fits ?_)
 dsimp only
 rw [show ((ep:Nat):Int).toNat=ep from qaB ep,show ((p:Nat):Int).toNat=p from qaB p,qa5 (by simp)]
 cases ee:es[p]? with
 | none=>rw [ee] at he;cases he
 | some e=>
  rw [ee] at he
  cases he
  dsimp only
  refine qaX ?_
  refine qaW (wpAny_setField_rec hI (by simp) fun h2 a2 sb2=> ?_)
  refine qaX ⟨_,rfl,qaX (q h2 ?_ sb2)⟩
  unfold SIt
  rw [a2]
  simp [rawInt]
theorem zi3 {it a tp:Addr} {n ep i:Nat} {es:Array (Int×Value)} {tb:SetTable} {ps:Array Value} {Q:Option Value->Shared->Prop} (hh:A.handled=none) (hI:SIt s.heap it a (.ref tp) i n ep) (hS:zh3 s.heap a es ep tb) (hn:es.size=n)
  (hT:s.heap.get? tp=some {cls:= .type "tuple",data:= .seq ps}) (hp:ps[i]? = none)
  (q: ∀ h',(∀ b ob,b≠it->s.heap.get? b=some ob->h'.get? b=some ob)->Q none {s with heap:=h'}):wpAny (model prog w) A (pyNext (.ref it)) Q E s:=by
 obtain ⟨ob,ho,hx,hd⟩:=hS.at_
 have tI:s.TypeIs (.ref it) "set_iterator":=⟨_,hI,rfl⟩
 unfold pyNext
 refine qaW (wpAny_attempt (wpAny_callSpecial?_slot (name:=Str.ofString "__next__") tI zaG (wpAny_call_entry zaG tI zbZ ?_ (zcd _))))
 unfold Builtin.«set_iterator.__next__»
 refine qaW (m:=slotArgs "__next__" 0 _) (qaX ?_)
 refine qaW (m:=fieldsOf (.ref it)) ?_
 unfold fieldsOf
 refine qaW (wpAny_load hI (qaX ?_))
 refine qaW (wpAny_setEntries_of ho hd hS.fits ?_)
 have same: ¬(((es.size:Nat):Int) != (n:Int))=true:=by rw [hn];simp
 rw [qa5 same]
 refine qaW (m:=seqItems? (.ref tp)) ?_
 unfold seqItems?
 refine qaW (wpAny_load hT (qaX ?_))
 dsimp only
 rw [show ((i:Nat):Int).toNat=i from qaB i,hp]
 dsimp only
 refine qaW (wpAny_setField_rec hI (by simp) fun h1 a1 sb1=> ?_)
 refine qaW (wpAny_setField_rec (s:={s with heap:=h1}) a1 (by simp) fun h2 a2 sb2=> ?_)
 refine qaZ (ziP (Q:=Q) (E:=E) (r:=fun _=>True) (it:=it) (s:={s with heap:=h2}) hh fun h' k=>q h' fun b ob hb e=>k b ob ((sb2.2 b hb).trans ((sb1.2 b hb).trans e))) (fun f s' ⟨v,e,z⟩=>⟨v,e,qaX z⟩) fun e s' z=>z
theorem zeI {it a:Addr} {first:Value} {i n ep:Nat} {Q:Value->Shared->Prop} (hI:SIt s.heap it a first i n ep) (q:Q (.ref it) s):wpAny (model prog w) A (pyIter (.ref it)) Q E s:=by
 have tI:s.TypeIs (.ref it) "set_iterator":=⟨_,hI,rfl⟩
 refine wpAny_pyIter_slot tI zc9 (wpAny_call_entry zc9 tI zeR ?_ (zfw _))
 show wpAny _ _ (ret (.ref it)) _ _ _
 exact qaX ⟨_,rfl,"set_iterator",_,tI,zaG.lookup,q⟩
theorem zh3.keep {h h':Heap} {a:Addr} {es:Array (Int×Value)} {ep:Nat} {tb:SetTable} (x:zh3 h a es ep tb) (k: ∀ ob,h.get? a=some ob->h'.get? a=some ob):zh3 h' a es ep tb:=
 ⟨let ⟨ob,h1,h2⟩:=x.at_;⟨ob,k ob h1,h2⟩,x.fits⟩
noncomputable def zgI (tb:SetTable):Nat->Nat
 | 0=>0
 | i+1=>tb.place.getD i 0+1
theorem zis (hh:A.handled=none) {it a:Addr} {ep:Nat} {es:Array (Int×Value)} {tb:SetTable} (hne:a≠it) (up:Up tb.place) (led:tb.led=true) (bt:w.params.followText "set-order"=false) (pl:(!tb.plain && decide (es.size>1))=false) (hf:tb.fits es.size=true):
  Walks prog w A it [it,a] [it] es.size (fun i v=> ∃ e,es.toList[i]? = some e/\v=e.2) (fun i h=>SIt h it a (.int (zgI tb i:Nat) 0) i es.size ep/\zh3 h a es ep tb) where
 sub:=fun b hb=>by simp at hb;simp [hb]
 frame:=fun i h h' st k=>⟨k it (by simp) _ st.1,st.2.keep fun ob e=>k a (by simp) ob e⟩
 item:=fun i s Q E hi st q=>by
  have pz:=ze3 hf
  have hi2:i<tb.place.size:=by omega
  have bl:SetTable.below tb.place (zgI tb i)=i:=by
   cases i with
   | zero=>exact ze2 up
   | succ i=>
    have hi3:i<tb.place.size:=by omega
    have e:tb.place[i]? = some (tb.place.getD i 0):=by simp [hi3,Array.getD]
    exact ze0 up e
  have ep':tb.place.getD i 0=tb.place[i]:=by simp [hi2,Array.getD]
  refine zjm (nx:=zgI tb (i+1)) (x:=es[i].2) st.1 st.2 rfl (fun R E' r=>zdn st.2 led bt pl ?_) fun h' a1 sb=> ?_
  ·rw [bl]
   have e1:es[i]? = some es[i]:=by simp [hi]
   have e2:tb.place[i]? = some tb.place[i]:=by simp [hi2]
   rw [e1,e2]
   show R (some (es[i].2,tb.place[i]+1)) s
   have e3:zgI tb (i+1)=tb.place[i]+1:=by show tb.place.getD i 0+1=_;rw [ep']
   rw [<- e3]
   exact r
  ·exact q _ h' s.toks ⟨es[i],by simp [hi],rfl⟩ ⟨a1,st.2.keep fun ob e=>(sb.2 a hne).trans e⟩ fun b ob hb e=>(sb.2 b fun z=>hb (by simp [z])).trans e
 done:=fun s Q E st q=>by
  have pz:=ze3 hf
  have bl:SetTable.below tb.place (zgI tb es.size)=es.size:=by
   cases hz:es.size with
   | zero=>exact ze2 up
   | succ i=>
    have hi3:i<tb.place.size:=by omega
    have e:tb.place[i]? = some (tb.place.getD i 0):=by simp [hi3,Array.getD]
    exact ze0 up e
  refine zmb hh st.1 st.2 rfl (fun R E' r=>zdn st.2 led bt pl ?_) fun h' k=>q h' s.toks fun b ob hb e=>k b ob (fun z=>hb (by simp [z])) e
  rw [bl]
  have e1:es[es.size]? = none:=by simp
  rw [e1]
  exact r
 self:=fun i s Q E st q=>zeI st.1 q
theorem zjQ (hh:A.handled=none) {it a:Addr} {ep:Nat} {es:Array (Int×Value)} {tb:SetTable} (hne:a≠it) (bt:w.params.followText "set-order"=true) (hf:tb.fits es.size=true):
  Walks prog w A it [it,a] [it] es.size (fun i v=> ∃ e,(pickOrder (w.params.setOrder a ep) es).toList[i]? = some e/\v=e.2) (fun i h=>SIt h it a (.int (0:Nat) 0) i es.size ep/\zh3 h a es ep tb) where
 sub:=fun b hb=>by simp at hb;simp [hb]
 frame:=fun i h h' st k=>⟨k it (by simp) _ st.1,st.2.keep fun ob e=>k a (by simp) ob e⟩
 item:=fun i s Q E hi st q=>by
  have pz:(pickOrder (w.params.setOrder a ep) es).size=es.size:=by
   have:=(zb0 (w.params.setOrder a ep) es).length_eq
   simpa using this
  have hi2:i<(pickOrder (w.params.setOrder a ep) es).size:=by omega
  refine zjm (nx:=0) (x:=(pickOrder (w.params.setOrder a ep) es)[i].2) st.1 st.2 rfl (fun R E' r=>zdR st.2 bt ?_) fun h' a1 sb=> ?_
  ·have e1:(pickOrder (w.params.setOrder a ep) es)[i]? = some (pickOrder (w.params.setOrder a ep) es)[i]:=by simp [hi2]
   rw [e1]
   exact r
  ·exact q _ h' s.toks ⟨(pickOrder (w.params.setOrder a ep) es)[i],by simp [hi2],rfl⟩ ⟨a1,st.2.keep fun ob e=>(sb.2 a hne).trans e⟩ fun b ob hb e=>(sb.2 b fun z=>hb (by simp [z])).trans e
 done:=fun s Q E st q=>by
  have pz:(pickOrder (w.params.setOrder a ep) es).size=es.size:=by
   have:=(zb0 (w.params.setOrder a ep) es).length_eq
   simpa using this
  refine zmb hh st.1 st.2 rfl (fun R E' r=>zdR st.2 bt ?_) fun h' k=>q h' s.toks fun b ob hb e=>k b ob (fun z=>hb (by simp [z])) e
  have e1:(pickOrder (w.params.setOrder a ep) es)[es.size]? = none:=by simp [pz]
  rw [e1]
  exact r
 self:=fun i s Q E st q=>zeI st.1 q
theorem ziA (hh:A.handled=none) {it a tp:Addr} {ep:Nat} {es:Array (Int×Value)} {tb:SetTable} {ys:List Nat} (hne:a≠it) (hne2:tp≠it) (hp:List.Perm ys (List.range es.size)):
  Walks prog w A it [it,a,tp] [it] es.size (fun i v=> ∃ e,(ys.filterMap (es[·]?))[i]? = some e/\v=e.2) (fun i h=>SIt h it a (.ref tp) i es.size ep/\zh3 h a es ep tb/\h.get? tp=some {cls:= .type "tuple",data:= .seq (ys.map fun (i:Nat)=>rawInt i).toArray}) where
 sub:=fun b hb=>by simp at hb;simp [hb]
 frame:=fun i h h' st k=>⟨k it (by simp) _ st.1,st.2.1.keep fun ob e=>k a (by simp) ob e,k tp (by simp) _ st.2.2⟩
 item:=fun i s Q E hi st q=>by
  have hl:ys.length=es.size:=by simpa using hp.length_eq
  have hi2:i<ys.length:=by omega
  have lt: ∀ y∈ys,y<es.size:=fun y hy=>by simpa using hp.mem_iff.mp hy
  have lti:=lt _ (List.getElem_mem hi2)
  have fm: ∀ (zs:List Nat),(∀ y∈zs,y<es.size)-> ∀ (j:Nat) (y:Nat),zs[j]? = some y->(zs.filterMap (es[·]?))[j]? = es[y]? := by
   intro zs
   induction zs with
   | nil=>intro _ j y e;simp at e
   | cons z r ih=>
    intro hz j y e
    have lz:=hz z (.head _)
    rw [List.filterMap_cons_some (b:=es[z]) (by simp [lz])]
    cases j with
    | zero=>simp at e;subst e;simp [lz]
    | succ j=>simpa using ih (fun y hy=>hz y (.tail _ hy)) j y (by simpa using e)
  refine ziD (p:=ys[i]) (x:=es[ys[i]].2) st.1 st.2.1 rfl st.2.2 (by simp [hi2,rawInt]) (by simp [lti]) fun h' a1 sb=> ?_
  refine q _ h' s.toks ⟨es[ys[i]],?_,rfl⟩ ⟨a1,st.2.1.keep fun ob e=>(sb.2 a hne).trans e,(sb.2 tp hne2).trans st.2.2⟩ fun b ob hb e=>(sb.2 b fun z=>hb (by simp [z])).trans e
  rw [fm ys lt i ys[i] (by simp [hi2])]
  simp [lti]
 done:=fun s Q E st q=>by
  have hl:ys.length=es.size:=by simpa using hp.length_eq
  exact zi3 hh st.1 st.2.1 rfl st.2.2 (by simp [hl]) fun h' k=>q h' s.toks fun b ob hb e=>k b ob (fun z=>hb (by simp [z])) e
 self:=fun i s Q E st q=>zeI st.1 q
end
section
variable {prog:Program} {w:World} {A:Around} {E:Value->Shared->Prop} {s:Shared}
structure zm1 (prog:Program) (w:World) (a it:Addr) (es:Array (Int×Value)) (ord:List (Int×Value)) (fp:List Addr) (St:Nat->Heap->Prop):Prop where
 walks: ∀ A:Around,A.handled=none->Walks prog w A it fp [it] es.size (fun i v=> ∃ e,ord[i]? = some e/\v=e.2) St
 perm:List.Perm ord es.toList
 mem:it∈fp
theorem zrw {a:Addr} {S:Int->Bool} {n:Nat} {Q:Value->Shared->Prop} (g:zfP prog w s.heap a S n)
  (q: ∀ it es ep tb ord fp St h' d,(∃ ob,s.heap.get? a=some ob/\ob.ExactSet/\ob.data= .set es ep tb)->zm1 prog w a it es ord fp St->St 0 h'->s.heap.objs.size<=it->(∀ b ob,s.heap.get? b=some ob->h'.get? b=some ob)->(∀ b∈fp,b=a\/s.heap.objs.size<=b)->es.size<scanBound->
    Q (.ref it) {s with heap:=h',drawn:=d}):wpAny (model prog w) A (pyIter (.ref a)) Q E s:=by
 obtain ⟨ob,es,ep,tb,⟨h1,h2,h3⟩,h4,h5,⟨h6,h7,h8⟩,h9⟩:=g
 have tS:s.TypeIs (.ref a) "set":=⟨ob,h1,h2.1⟩
 have lta:a<s.heap.objs.size:=qaQ h1
 refine wpAny_pyIter_slot tS F.slot_set_iter (wpAny_call_entry F.slot_set_iter tS zeL ?_ (F.args_set_iter_1 _))
 unfold Builtin.«frozenset.__iter__»
 refine qaW (m:=Builtin.Frozenset.slot0 "__iter__" _) (qaX ?_)
 refine qaW (m:=Builtin.Frozenset.sizeOf a) ?_
 unfold Builtin.Frozenset.sizeOf
 refine qaW (wpAny_setEntries_of h1 h3 h7 (qaX ?_))
 refine qaW (m:=setDrawn a) ?_
 unfold setDrawn
 refine qaW (wpAny_setState_of h1 h3 h7 ?_)
 dsimp only
 unfold setsByText
 refine qaW (qaW (wpAny_askSetting (qaX (qaX ?_))))
 dsimp only
 have sobj: ∀ {h':Heap},(∀ b ob,s.heap.get? b=some ob->h'.get? b=some ob)->zh3 h' a es ep tb:=fun k=>⟨⟨ob,k _ _ h1,h2,h3⟩,h7⟩
 by_cases dr:(!(model prog w).w.params.followText "set-order" && (!tb.plain && decide (es.size>1)))=true
 ·show wpAny _ _ (if (!(model prog w).w.params.followText "set-order" && (!tb.plain && decide (es.size>1)))=true then _ else _) _ _ _
  rw [qa4 dr]
  refine qaW (zdS es.size (List.range es.size) s _ (by simp) fun ys d hp=> ?_)
  have hl:ys.length=es.size:=by simpa using hp.length_eq
  have small:es.size<=sizeLine:=fits_of_scanBound h6
  refine qaW ?_
  unfold newTuple
  refine qaC ?_ (by show (ys.map fun (i:Nat)=>rawInt i).toArray.size<=sizeLine;simp [hl];exact small)
  unfold setEpoch
  refine qaW (qaW (wpAny_setState_of (s:={s with heap:=_,drawn:=d}) (qag _ h1) h3 h7 (qaX ?_)))
  dsimp only
  refine qaW (qaC (qaX ⟨_,rfl,"set_iterator",_,⟨_,qar _ rfl,rfl⟩,zaG.lookup,?_⟩))
  have z1:(s.heap.push {cls:= .type "tuple",dict:=none,data:= .seq (ys.map fun (i:Nat)=>rawInt i).toArray}).objs.size=s.heap.objs.size+1:=qaL ..
  have kp: ∀ (o2:Obj) b ob,s.heap.get? b=some ob->((s.heap.push {cls:= .type "tuple",dict:=none,data:= .seq (ys.map fun (i:Nat)=>rawInt i).toArray}).push o2).get? b=some ob:=fun o2 b ob e=>qag _ (qag _ e)
  refine q _ es ep tb (ys.filterMap (es[·]?)) [(s.heap.push {cls:= .type "tuple",dict:=none,data:= .seq (ys.map fun (i:Nat)=>rawInt i).toArray}).objs.size,a,s.heap.objs.size] _ _ d ⟨ob,h1,h2,h3⟩ ⟨fun A' hA=>ziA (tb:=tb) (ep:=ep) hA ?_ ?_ hp,?_,.head _⟩ ⟨?_,sobj (kp _),?_⟩ ?_ (kp _) (fun b hb=> ?_) h6
  ·rw [z1];exact qaR (Nat.lt_succ_of_lt lta)
  ·rw [z1];exact qaR (Nat.lt_succ_self _)
  ·refine (hp.filterMap _).trans ?_
   rw [filterMap_getElem?_range]
  ·exact qar _ rfl
  ·exact qag _ (qar _ rfl)
  ·rw [z1];exact Nat.le_succ _
  ·simp only [qaP,qaF,or_false] at hb
   rcases hb with z | z | z
   ·right;rw [z,z1];exact Nat.le_succ _
   ·exact .inl z
   ·right;rw [z];exact qaV _
 ·show wpAny _ _ (if (!(model prog w).w.params.followText "set-order" && (!tb.plain && decide (es.size>1)))=true then _ else _) _ _ _
  rw [qa5 dr]
  refine qaW (qaX ?_)
  unfold setEpoch
  refine qaW (qaW (wpAny_setState_of h1 h3 h7 (qaX ?_)))
  dsimp only
  refine qaW (qaC (qaX ⟨_,rfl,"set_iterator",_,⟨_,qar _ rfl,rfl⟩,zaG.lookup,?_⟩))
  have kp: ∀ (o2:Obj) b ob,s.heap.get? b=some ob->(s.heap.push o2).get? b=some ob:=fun o2 b ob e=>qag _ e
  have fpl: ∀ b∈[s.heap.objs.size,a],b=a\/s.heap.objs.size<=b:=fun b hb=>by
   simp only [qaP,qaF,or_false] at hb
   rcases hb with z | z
   ·right;rw [z];exact qaV _
   ·exact .inl z
  cases bt:w.params.followText "set-order" with
  | true=>
   exact q _ es ep tb _ [s.heap.objs.size,a] _ _ s.drawn ⟨ob,h1,h2,h3⟩ ⟨fun A' hA=>zjQ (tb:=tb) (ep:=ep) hA (qaR lta) bt h7,zb0 _ _,.head _⟩ ⟨qar _ rfl,sobj (kp _)⟩ (qaV _) (kp _) fpl h6
  | false=>
   have pl:(!tb.plain && decide (es.size>1))=false:=by
    rw [show (model prog w).w.params.followText "set-order"=false from bt] at dr
    simpa using dr
   have led:tb.led=true:=by
    rw [h9.led]
    unfold zcg
    rw [bt]
    rfl
   exact q _ es ep tb _ [s.heap.objs.size,a] _ _ s.drawn ⟨ob,h1,h2,h3⟩ ⟨fun A' hA=>zis (tb:=tb) (ep:=ep) hA (qaR lta) h9.up led bt pl h7,.rfl,.head _⟩ ⟨qar _ rfl,sobj (kp _)⟩ (qaV _) (kp _) fpl h6
theorem zlG {a:Addr} {S:Int->Bool} {n:Nat} {Q:List Value->Shared->Prop} (hh:A.handled=none) (g:zfP prog w s.heap a S n)
  (q: ∀ vs s' es ep tb,(∃ ob,s.heap.get? a=some ob/\ob.ExactSet/\ob.data= .set es ep tb)->List.Perm vs (es.toList.map (·.2))->(∀ b ob,s.heap.get? b=some ob->s'.heap.get? b=some ob)->s'.gens=s.gens->s'.os=s.os->Q vs s'):wpAny (model prog w) A (collect (.ref a)) Q E s:=by
 have tS: ∀ {h':Heap} {s':Shared},s'.heap=h'->(∀ b ob,s.heap.get? b=some ob->h'.get? b=some ob)->s'.TypeIs (.ref a) "set":=fun {h' s'} e k=>by
  obtain ⟨ob,es,ep,tb,⟨h1,h2,h3⟩,_⟩:=g
  exact ⟨ob,by rw [e];exact k _ _ h1,h2.1⟩
 have lta:a<s.heap.objs.size:=by
  obtain ⟨ob,es,ep,tb,⟨h1,h2,h3⟩,_⟩:=g
  exact qaQ h1
 unfold collect
 refine qaW (wpAny_runValue (codeAny_builtin F.entry_proto_collect ?_))
 rw [qap F.plain_proto_collect _]
 show wpAny _ _ (newList []>>=fun l=>again (.builtin "list.__iadd__" ⟨[l,.ref a],[]⟩)) _ _ _
 refine qaW (qaC (qaX ⟨plainId_quiet F.plain_list_iadd _,codeAny_builtin F.entry_list_iadd ?_⟩))
 rw [qap F.plain_list_iadd _]
 show wpAny _ _ (Builtin.List.listExtendWith (.ref s.heap.objs.size) (.ref a) (.ref s.heap.objs.size)) _ _ _
 unfold Builtin.List.listExtendWith
 have k1: ∀ b ob,s.heap.get? b=some ob->(s.heap.push {cls:= .type "list",data:= .seq ([]:List Value).toArray}).get? b=some ob:=fun b ob e=>qag _ e
 refine qaW (wpAny_typeOf (tS rfl k1) ?_)
 have nsame:Builtin.List.listSameRef (.ref s.heap.objs.size) (.ref a)=false:=by
  simp only [Builtin.List.listSameRef,beq_eq_false_iff_ne]
  exact fun z=>qaN _ (z▸lta)
 have nl:(Value.type "set"==Value.type "list")=false:=by decide
 have nt:(Value.type "set"==Value.type "tuple")=false:=by decide
 simp only [nsame,nl,nt,Bool.or_false,qax,if_false]
 refine qaW (zrw (g.move (fun ob e=>k1 _ _ e) (fun _=>rfl) rfl) fun it es ep tb ord fp St h2 d hob W st0 lit k2 fpl few=> ?_)
 refine qaW (qaO ?_)
 unfold Builtin.List.listLengthHint
 have k12: ∀ b ob,s.heap.get? b=some ob->h2.get? b=some ob:=fun b ob e=>k2 b ob (k1 b ob e)
 refine qaW (wpAny_specialOf (tS rfl k12) F.slot_set_len.lookup ?_)
 have sp:splitId "set.__len__"=some ("set","__len__"):=by decide +kernel
 dsimp only
 rw [sp]
 dsimp only
 refine qaW (wpAny_isInstance (tS rfl k12) sub_set_self ?_)
 rw [qa5 (by decide)]
 rw [qa4 (by decide +kernel)]
 refine qaW (wpAny_typeOf (tS rfl k12) (qaX ?_))
 rw [qa4 (by decide +kernel)]
 refine qaW (wpAny_rule ?_)
 have l2:h2.get? s.heap.objs.size=some {cls:= .type "list",data:= .seq ([]:List Value).toArray}:=k2 _ _ (qar _ rfl)
 refine qaW ?_
 unfold Builtin.List.listTouch
 show wpAny _ _ (updateSeq s.heap.objs.size (·.push .none)>>=fun _=>updateSeq s.heap.objs.size (·.pop)) _ _ _
 refine qaW (wpAny_updateSeq l2 rfl ?_)
 have l3:=qal (Obj.mapSeq (·.push Value.none)) l2 rfl
 refine wpAny_updateSeq l3 rfl ?_
 have l4:=qal (Obj.mapSeq (·.pop)) l3 rfl
 have oth: ∀ b ob,b≠s.heap.objs.size->h2.get? b=some ob->((h2.update s.heap.objs.size (Obj.mapSeq (·.push Value.none))).update s.heap.objs.size (Obj.mapSeq (·.pop))).get? b=some ob:=fun b ob hb e=>
  (qah _ _ (Ne.symm hb)).trans ((qah _ _ (Ne.symm hb)).trans e)
 have nfp:s.heap.objs.size∉fp:=fun z=>by
  rcases fpl _ z with z | z
  ·exact qaN _ (z▸lta)
  ·rw [show ({s with heap:=s.heap.push {cls:= .type "list",data:= .seq ([]:List Value).toArray}}:Shared).heap.objs.size=s.heap.objs.size+1 from qaL ..] at z
   exact qaN _ z
 have fin: ∀ (s':Shared) (vs:Array Value) (c:Nat),(∀ b ob,s.heap.get? b=some ob->s'.heap.get? b=some ob)->s'.gens=s.gens->s'.os=s.os->s'.heap.get? s.heap.objs.size=some {cls:= .type "list",dict:=none,data:= .seq vs c,slots:= #[]}->ItemsOf (fun i v=> ∃ e,ord[i]? = some e/\v=e.2) vs es.size->
   wpAny (model prog w) A (load s.heap.objs.size>>=fun o=>match o.data with | .seq xs _=>pure xs.toList | _=>unsupported "internal:collect") Q E s':=fun s' vs c k g1 g2 e it1=>by
  refine qaW (wpAny_load e (qaX (q vs.toList s' es ep tb ?_ ?_ k g1 g2)))
  ·obtain ⟨ob,o1,o2⟩:=hob
   obtain ⟨ob',es',ep',tb',⟨p1,p2,p3⟩,_⟩:=g
   have:=k1 _ _ p1
   rw [o1] at this
   cases this
   exact ⟨ob,p1,o2⟩
  ·have hl:ord.length=es.size:=by simpa using W.perm.length_eq
   have e2:vs.toList=ord.map (·.2):=by
    apply List.ext_getElem?
    intro i
    by_cases hi:i<es.size
    ·have hv0:i<vs.size:=by rw [it1.1];exact hi
     have hv:vs[i]? = some vs[i]:=by simp [hv0]
     obtain ⟨e,e1,e2⟩:=it1.2 i _ hv
     rw [List.getElem?_map,e1,Array.getElem?_toList,hv,e2]
     rfl
    ·rw [List.getElem?_eq_none (by simp [it1.1];omega),List.getElem?_eq_none (by simp [hl];omega)]
   rw [e2]
   exact W.perm.map _
 have Wk:=(W.walks A.in1 hh).toS
 refine qaX ⟨plainId_quiet F.plain_extend_loop _,codeAny_extend_loopS Wk ?_ _ nfp _ es.size 0 _ _ _ rfl (Nat.zero_le _) ?_ l4 (ItemsOf.nil _) fun s' vs c mv e it1=> ?_⟩
 ·exact fits_of_scanBound few
 ·exact (W.walks A.in1 hh).frame 0 h2 _ st0 fun b hb ob e=>oth b ob (fun z=>nfp (z▸hb)) e
 ·refine fin s' vs c (fun b ob e'=>mv.heap b ob ?_ (oth b ob ?_ (k12 b ob e'))) mv.gens mv.os e it1
  ·intro z
   rcases qaP.mp z with z | z
   ·exact qaN _ (z▸qaQ e')
   ·simp only [qaP,qaF,or_false] at z
    have:=qaQ e'
    rw [z] at this
    exact qaN _ (qaw this (qaS (by rw [qaL];exact Nat.le_succ _) lit))
  ·exact fun z=>qaN _ (z▸qaQ e')
end
noncomputable def zmg (x:Int):List Int->List Int
 | []=>[x]
 | y::r=>if x<=y then x::y::r else y::zmg x r
noncomputable def zba:List Int->List Int
 | []=>[]
 | x::r=>zmg x (zba r)
theorem zer (x:Int): ∀ l:List Int,List.Perm (zmg x l) (x::l)
 | []=> .rfl
 | y::r=>by
  unfold zmg
  split
  ·exact .rfl
  ·exact ((zer x r).cons y).trans (.swap x y r)
theorem zkR {x z:Int} {l:List Int}:z∈zmg x l↔z=x\/z∈l:=by rw [(zer x l).mem_iff,qaP]
theorem zkw (x:Int): ∀ l:List Int,l.Pairwise (· <= ·)->(zmg x l).Pairwise (· <= ·)
 | [],_=>by unfold zmg;simp
 | y::r,h=>by
  obtain ⟨h1,h2⟩:=qay.mp h
  unfold zmg
  split
  ·rename_i hxy
   refine qay.mpr ⟨fun z hz=> ?_,h⟩
   rcases qaP.mp hz with e | hz
   ·rw [e];exact hxy
   ·exact Int.le_trans hxy (h1 z hz)
  ·rename_i hxy
   refine qay.mpr ⟨fun z hz=> ?_,zkw x r h2⟩
   rcases zkR.mp hz with e | hz
   ·rw [e];omega
   ·exact h1 z hz
theorem zat: ∀ l:List Int,List.Perm (zba l) l
 | []=> .rfl
 | x::r=>(zer x _).trans ((zat r).cons x)
theorem zcE: ∀ l:List Int,(zba l).Pairwise (· <= ·)
 | []=> .nil
 | x::r=>zkw x _ (zcE r)
theorem zd5 {a b:List Int} (hp:a.Perm b) (h:a.Pairwise (· <= ·)):a=zba b:=W.ksm_same (hp.trans (zat b).symm) h (zcE b)
noncomputable def zhj (ns:List Int):List Int:=zba (ns.foldl step_dedup [])
theorem zjG (ns:List Int): ∀ (acc:List Int) (k:Int),(ns.foldl step_dedup acc).any (· == k)=(acc.any (· == k) || ns.any (· == k)):=by
 induction ns with
 | nil=>intro acc k;simp
 | cons x r ih=>
  intro acc k
  rw [List.foldl_cons,ih,step_any]
  simp only [List.any_cons]
  have:(x==k)=decide (k=x):=by
   by_cases h:k=x
   ·subst h;simp
   ·have h': ¬x=k:=fun e=>h e.symm
    simp [h,h']
  rw [this,Bool.or_assoc]
theorem zjx {ns:List Int} {k:Int}:k∈ns.foldl step_dedup []↔k∈ns:=by
 have:=zjG ns [] k
 simp only [List.any_nil,Bool.false_or] at this
 have e: ∀ l:List Int,k∈l↔(l.any fun x=>x==k)=true:=fun l=>by
  rw [List.any_eq_true]
  constructor
  ·exact fun h=>⟨k,h,by simp⟩
  ·rintro ⟨x,h,c⟩
   have c:x=k:=by simpa using c
   rw [<- c]
   exact h
 rw [e,e,this]
theorem zeA (ns:List Int): ∀ acc:List Int,acc.Nodup->(ns.foldl step_dedup acc).Nodup:=by
 induction ns with
 | nil=>intro acc h;exact h
 | cons x r ih=>
  intro acc h
  refine ih _ ?_
  unfold step_dedup
  split
  ·exact h
  ·rename_i hx
   rw [List.nodup_append]
   refine ⟨h,by simp,fun a ha b hb=> ?_⟩
   simp only [List.mem_singleton] at hb
   subst hb
   intro e
   subst e
   exact hx (List.any_eq_true.mpr ⟨a,ha,by simp⟩)
theorem zhK {ns:List Int} {k:Int}:k∈zhj ns↔k∈ns:=by unfold zhj;rw [(zat _).mem_iff,zjx]
theorem zm7 (ns:List Int):(zhj ns).Pairwise (· < ·):=by
 have h1:=zcE (ns.foldl step_dedup [])
 have h2:(zhj ns).Nodup:=(zat _).nodup_iff.mpr (zeA ns [] List.nodup_nil)
 exact (List.Pairwise.and h1 h2).imp fun ⟨a,b⟩=>by omega
theorem zeh (ns:List Int):firstMet (fun i=>ns.getD i 0) ns.length=ns.foldl step_dedup []:=by
 unfold firstMet
 congr 1
 apply List.ext_getElem?
 intro i
 by_cases hi:i<ns.length
 ·simp [hi,List.getD]
 ·rw [List.getElem?_eq_none (by simp;omega),List.getElem?_eq_none (by omega)]
theorem zek: ∀ {fm ms:List Int},fm.Nodup->(∀ k,k∈fm->k∈ms)->ms.length<=fm.length->List.Perm ms fm
 | [],ms,_,_,h=>by
  have:ms=[]:=List.length_eq_zero_iff.mp (by simpa using h)
  subst this
  exact .rfl
 | x::r,ms,nd,hm,h=>by
  obtain ⟨n1,n2⟩:=List.nodup_cons.mp nd
  have hx:=hm x (.head _)
  have p:=List.perm_cons_erase hx
  have hl:=p.length_eq
  rw [qaE] at hl h
  refine p.trans ((zek n2 (fun k hk=> ?_) (by omega)).cons x)
  have hne:k≠x:=fun e=>n1 (e▸hk)
  rcases qaP.mp (p.mem_iff.mp (hm k (.tail _ hk))) with e | e
  ·exact absurd e hne
  ·exact e
section
variable {prog:Program} {w:World} {A:Around} {E:Value->Shared->Prop} {s:Shared}
theorem zgH {l l':List Value} {ns:List Int} (p:List.Perm l l') (h:IntsAre l' ns): ∃ ms,IntsAre l ms/\List.Perm ms ns:=by
 induction p generalizing ns with
 | nil=>exact ⟨ns,h,.rfl⟩
 | cons x _ ih=>
  cases h with
  | cons n t h=>
   obtain ⟨ms,h1,h2⟩:=ih h
   exact ⟨n::ms,.cons n t h1,h2.cons n⟩
 | swap x y l=>
  cases h with
  | cons n t h=>
   cases h with
   | cons n' t' h=>exact ⟨n'::n::_,.cons n' t' (.cons n t h),.swap _ _ _⟩
 | trans _ _ ih1 ih2=>
  obtain ⟨ms,h1,h2⟩:=ih2 h
  obtain ⟨ms',h3,h4⟩:=ih1 h1
  exact ⟨ms',h3,h4.trans h2⟩
theorem ze7: ∀ {es:List (Int×Value)},ElemsOf (intKind prog w) es-> ∃ ms,IntsAre (es.map (·.2)) ms/\ ∀ k,k∈ms↔ ∃ e∈es,(intKind prog w).is k e.2=true
 | [],_=>⟨[],.nil,fun k=>by simp⟩
 | e::r,h=>by
  obtain ⟨ms,h1,h2⟩:=ze7 (ElemsOf.tail h)
  obtain ⟨⟨k,hk,_⟩,_⟩:=ElemsOf.head h
  obtain ⟨t,ht⟩:=Value.isInt_shape (k:=k) (v:=e.2) hk
  refine ⟨k::ms,by rw [qaM,ht];exact .cons k t h1,fun z=> ?_⟩
  rw [qaP,h2 z]
  constructor
  ·rintro (c | ⟨e',c1,c2⟩)
   ·exact ⟨e,.head _,by rw [c];exact hk⟩
   ·exact ⟨e',.tail _ c1,c2⟩
  ·rintro ⟨e',c1,c2⟩
   rcases qaP.mp c1 with c | c
   ·subst c;exact .inl ((intKind prog w).inj _ _ _ c2 hk)
   ·exact .inr ⟨e',c,c2⟩
theorem zez {x:Value} {Q:Value->Shared->Prop} (hc: ∀ E':Value->Shared->Prop,wpAny (model prog w) A.in1 (collect x) (fun vs s1=> ∃ ns,IntsAre vs ns/\vs.length<64/\ ∀ out e h',IntsAre out (zba ns)->(∀ b ob,s1.heap.get? b=some ob->h'.get? b=some ob)->
      h'.get? s1.heap.objs.size=some (seqObj "list" out.toArray e)->Q (.ref s1.heap.objs.size) {s1 with heap:=h'}) E' s):wpAny (model prog w) A (call (.builtin "sorted") [x]) Q E s:=by
 refine Calls.call_function_entry kind_sorted plain_sorted entry_sorted (args_sorted1 _) ?_
 unfold Builtin.«sorted»
 refine qaW (m:=checkCount "sorted" 1 1 _) (qaX ?_)
 refine qaW (m:=collect x) (qaZ (hc _) (fun vs s1 ⟨ns,hI,h64,q⟩=> ?_) fun _ _ z=>z)
 have small:vs.length<=sizeLine:=qaS (Nat.le_of_lt h64) (by decide)
 refine qaW (wpAny_newList ?_ small)
 have at0:(s1.heap.push {cls:= .type "list",data:= .seq vs.toArray}).get? s1.heap.objs.size=some (seqObj "list" vs.toArray 0):=qar _ rfl
 refine qaW (qaO (wpAny_call_entry slot_list_sort ⟨_,at0,rfl⟩ entry_list_sort (list_sort_tree (s:={s1 with heap:=s1.heap.push {cls:= .type "list",data:= .seq vs.toArray}}) at0 hI h64 fun out ns' a1 a2 a3=>⟨_,rfl,?_⟩) (args_list_sort _)))
 obtain ⟨e,he⟩:=sortedHeap_at (out:=out) at0
 refine qaX ⟨_,rfl,q out.toList e _ ?_ (fun b ob eb=> ?_) (by simpa using he)⟩
 ·rw [<- zd5 a2 a3];exact a1
 ·have lt:=qaQ eb
  rw [sortedHeap_old (qaR lt) (by rw [qaL];exact Nat.lt_succ_of_lt lt)]
  exact qag _ eb
theorem zhg {l:Addr} {vs:List Value} {Q:List Value->Shared->Prop} (hl:s.heap.IsTuple l vs.toArray) (small:vs.length<=sizeLine)
  (q: ∀ h',(∀ b ob,s.heap.get? b=some ob->h'.get? b=some ob)->Q vs {s with heap:=h'}):wpAny (model prog w) A (collect (.ref l)) Q E s:=by
 obtain ⟨ob,ho,hc,n,hd⟩:=id hl
 unfold collect
 refine qaW (wpAny_runValue (codeAny_builtin F.entry_proto_collect ?_))
 rw [qap F.plain_proto_collect _]
 show wpAny _ _ (newList []>>=fun d=>again (.builtin "list.__iadd__" ⟨[d,.ref l],[]⟩)) _ _ _
 refine qaW (qaC (qaX ⟨plainId_quiet F.plain_list_iadd _,codeAny_builtin F.entry_list_iadd ?_⟩))
 rw [qap F.plain_list_iadd _]
 show wpAny _ _ (Builtin.List.listExtendWith (.ref s.heap.objs.size) (.ref l) (.ref s.heap.objs.size)) _ _ _
 unfold Builtin.List.listExtendWith
 have ho':(s.heap.push {cls:= .type "list",data:= .seq ([]:List Value).toArray}).get? l=some ob:=qag _ ho
 have d0:(s.heap.push {cls:= .type "list",data:= .seq ([]:List Value).toArray}).get? s.heap.objs.size=some (seqObj "list" #[] 0):=qar _ rfl
 refine qaW (wpAny_typeOf (T:="tuple") ⟨ob,ho',hc⟩ ?_)
 rw [qa4 (by simp)]
 refine qaW (listItems_at ho' hd ?_)
 refine qaW (listItems_at d0 rfl ?_)
 rw [qa5 (by simp)]
 refine qaW (listUpdate_at (xs:= #[]) (n:=0) d0 rfl ?_ (Nat.zero_le _) (by show (#[]++vs.toArray).size<=sizeLine+1;simp;omega))
 refine qaX ?_
 show wpAny _ _ (load s.heap.objs.size>>=fun o=>match o.data with | .seq xs _=>pure xs.toList | _=>unsupported "internal:collect") _ _ _
 refine qaW (wpAny_load (get?_update_seq d0 _) ?_)
 have z:=q ((s.heap.push {cls:= .type "list",data:= .seq ([]:List Value).toArray}).update s.heap.objs.size (Obj.mapSeq fun x=>x++vs.toArray)) fun b ob e=>(qah _ _ (fun z=>qaN _ (z▸qaQ e))).trans (qag _ e)
 show wpAny _ _ (pure ((#[]:Array Value)++vs.toArray).toList) _ _ _
 rw [show ((#[]:Array Value)++vs.toArray).toList=vs by simp]
 exact qaX z
end
end LT
namespace L2
open PySem PySem.Spec PyProof.Rows LT
section
variable {X:Cx}
noncomputable def zjd (P:Program) (w:World) (p:Addr) (ns:List Int):HO:= .ext fun h=>zfP P w h p (fun z=>(ns.foldl step_dedup []).any (· == z)) (ns.foldl step_dedup []).length
theorem zeo (ns:List Int):(ns.foldl step_dedup []).length<=ns.length:=by
 rw [<- zeh]
 exact firstMet_length_le _ _
theorem ziY (hc:X.calm=true):zaD X (.type "set") (fun xs H Q=> ∃ (a:Addr) (ns:List Int),xs=[.ref a]/\(SqL X.K H a (ns.map V.int)\/SqT X.K H a (ns.map V.int))/\ns.length<4000/\ ∀ p,H p=none->Q (.ref p) (upd H p (zjd X.prog X.w p ns))):=by
 intro pins s σ H xs us Q I r h
 obtain ⟨a,ns,rfl,hq,hl,q⟩:=h
 obtain ⟨u,rfl,rx⟩:=zcI r
 cases rx
 have fin: ∀ (items:Array Value),items.size=ns.length-> ∀ (h':Heap) (tk:Nat),zfP X.prog X.w h' s.heap.objs.size (fun z=>(firstMet (fun i=>ns.getD i 0) items.size).any (· == z)) (firstMet (fun i=>ns.getD i 0) items.size).length->(∀ b ob,s.heap.get? b=some ob->h'.get? b=some ob)->
   EP X pins σ Q (.ref s.heap.objs.size) {s with heap:=h',toks:=tk}:=fun items hz h' tk g k=>by
  rw [hz,zeh] at g
  refine ⟨.ref s.heap.objs.size,_,I.laid (t':=tk) (o:=zjd X.prog X.w s.heap.objs.size ns) k (qaV _) ⟨g,?_,fun h1 h2 z e=>z.move e (fun _=>rfl) rfl⟩,rfl,q _ (I.hok.fresh (qaV _))⟩
  obtain ⟨ob,es,ep,tb,⟨h1,_⟩,_⟩:=g
  exact ⟨ob,h1⟩
 have room:ns.length+1<scanBound:=by
  have:scanBound=4096:=rfl
  omega
 rcases hq with hq | hq
 ·obtain ⟨its,r',pl,_⟩:=I.list hq
  have hz:its.toArray.size=ns.length:=by rw [qaA, <-r'.length,qaH]
  exact zsi (I.ok.hd hc) (.inl ⟨rfl,pl.isList⟩) (by simpa using zb8 r') (by rw [hz];exact room) fun h' tk g k=>fin _ hz h' tk g k
 ·obtain ⟨its,r',pl,_⟩:=I.tuple hq
  have hz:its.toArray.size=ns.length:=by rw [qaA, <-r'.length,qaH]
  exact zsi (I.ok.hd hc) (.inr ⟨rfl,pl⟩) (by simpa using zb8 r') (by rw [hz];exact room) fun h' tk g k=>fin _ hz h' tk g k
theorem Inv.grown {pins:List (Addr×Obj)} {σ:St} {H:Hp} {s s':Shared} (I:Inv X pins σ H s) (ho:s'.os=s.os) (hg:s'.gens=s.gens) (k: ∀ b ob,s.heap.get? b=some ob->s'.heap.get? b=some ob):Inv X pins σ H s':=
 I.call' (ch:=[]) ho (Un.kept k) (I.hok.kept k) (by rw [hg];exact I.bare) fun b z=>nomatch z
theorem zl2 {out:List Value} {ms:List Int} (h:IntsAre out ms):zaM (ms.map V.int) out:=zey h
theorem zdT (hc:X.calm=true):zaD X (.builtin "sorted") (fun xs H Q=> ∃ (p:Addr) (ns:List Int),xs=[.ref p]/\((((ns.foldl step_dedup []).length<64/\H p=some (zjd X.prog X.w p ns))/\ ∀ l,H l=none->Q (.ref l) (upd H l (.lst ((zhj ns).map V.int))))\/
    ((ns.length<64/\(SqL X.K H p (ns.map V.int)\/SqT X.K H p (ns.map V.int)))/\ ∀ l,H l=none->Q (.ref l) (upd H l (.lst ((zba ns).map V.int)))))):=by
 intro pins s σ H xs us Q I r h
 obtain ⟨p,ns,rfl,h⟩:=h
 obtain ⟨u,rfl,rx⟩:=zcI r
 cases rx
 have fin: ∀ (s1:Shared) (ms:List Int),ms.length<=64->(∀ b ob,s.heap.get? b=some ob->s1.heap.get? b=some ob)->s1.gens=s.gens->s1.os=s.os->(∀ l,H l=none->Q (.ref l) (upd H l (.lst ((zba ms).map V.int))))-> ∀ out e h',IntsAre out (zba ms)->(∀ b ob,s1.heap.get? b=some ob->h'.get? b=some ob)->
   h'.get? s1.heap.objs.size=some (seqObj "list" out.toArray e)->EP X pins σ Q (.ref s1.heap.objs.size) {s1 with heap:=h'}:=fun s1 ms hm k g1 o1 q out e h' hi k2 e2=>by
  have I1:=I.grown o1 g1 k
  refine ⟨.ref s1.heap.objs.size,_,I1.laid (t':=s1.toks) (o:= .lst ((zba ms).map V.int)) k2 (qaV _) ⟨?_,out,e,zl2 hi,e2⟩,rfl,q _ (I1.hok.fresh (qaV _))⟩
  rw [qaH,(zat ms).length_eq]
  exact qaS hm (by decide)
 rcases h with ⟨⟨hl,hs⟩,q⟩ | ⟨⟨hl,hq⟩,q⟩
 ·obtain ⟨g,_⟩:=(show zbb X.prog X.w H s.heap p (zjd X.prog X.w p ns) from I.hok p _ hs)
  refine zez fun E'=>zlG (show X.A.in1.handled=none from I.ok.hd hc) g fun vs s1 es ep tb hob pv k g1 o1=> ?_
  obtain ⟨ob',es',ep',tb',⟨a1,a2,a3⟩,h4,h5,⟨h6,h7,h8⟩,h9⟩:=g
  obtain ⟨ob,b1,b2,b3⟩:=hob
  rw [a1] at b1
  cases b1
  rw [a3] at b3
  cases b3
  obtain ⟨ms,m1,m2⟩:=ze7 h4
  obtain ⟨ms',m3,m4⟩:=zgH pv m1
  have len:ms.length=(ns.foldl step_dedup []).length:=by
   rw [<- m1.length,qaH,qas]
   exact h8
  have pm:List.Perm ms (ns.foldl step_dedup []):=zek (zeA ns [] List.nodup_nil) (fun z hz=>by
    rw [m2 z, <-h5 z]
    exact List.any_eq_true.mpr ⟨z,hz,by simp⟩) (Nat.le_of_eq len)
  have es1:zba ms'=zhj ns:=by
   unfold zhj
   exact zd5 ((zat ms').trans (m4.trans pm)) (zcE ms')
  have lm:ms'.length<64:=by
   rw [m4.length_eq,len]
   exact hl
  refine ⟨ms',m3,by rw [m3.length];omega,fun out e h' hi k2 e2=> ?_⟩
  exact fin s1 ms' (by omega) k g1 o1 (by rw [es1];exact q) out e h' hi k2 e2
 ·rcases hq with hq | hq
  ·obtain ⟨its,r',pl,hz⟩:=I.list hq
   have hi:=zb8 r'
   have lz:its.length=ns.length:=by rw [<- r'.length,qaH]
   refine zez fun E'=>collect_list pl.isList ?_ (by rw [lz, <-qaH (f:=V.int)];exact hz)
   refine ⟨ns,hi,by omega,fun out e h' hi2 k2 e2=> ?_⟩
   refine fin {s with heap:=(s.heap.push (seqObj "list" #[] 0)).update s.heap.objs.size (Obj.mapSeq fun x=>x++its.toArray)} ns (by omega) (fun b ob eb=> ?_) rfl rfl q out e h' hi2 k2 e2
   exact (qah _ _ (fun z=>qaN _ (z▸qaQ eb))).trans (qag _ eb)
  ·obtain ⟨its,r',pl,hz⟩:=I.tuple hq
   have hi:=zb8 r'
   have lz:its.length=ns.length:=by rw [<- r'.length,qaH]
   refine zez fun E'=>zhg pl (by rw [lz, <-qaH (f:=V.int)];exact hz) fun h1 k1=> ?_
   refine ⟨ns,hi,by omega,fun out e h' hi2 k2 e2=> ?_⟩
   exact fin {s with heap:=h1} ns (by omega) k1 rfl rfl q out e h' hi2 k2 e2
theorem zkH (hc:X.calm=true):zaD X (.builtin "all") (fun xs H Q=> ∃ (a:Addr) (bs:List Bool),xs=[.ref a]/\SqL X.K H a (bs.map V.bl)/\Q (.bl (bs.all id)) H):=by
 intro pins s σ H xs us Q I r h
 obtain ⟨a,bs,rfl,hq,q⟩:=h
 obtain ⟨u,rfl,rx⟩:=zcI r
 cases rx
 obtain ⟨its,r',pl,hz⟩:=I.list hq
 have hlt:a<s.heap.objs.size:=by obtain ⟨_,e,_⟩:=pl.isList;exact qaQ e
 refine call_all_walk (wpAny_pyIter_list pl.isList ?_)
 refine ⟨s.heap.objs.size,[s.heap.objs.size,a],[s.heap.objs.size],its.toArray.size,_,_,fun i=>(bs[i]?).getD true,rfl,Walks.list (A:=X.A.in1) (I.ok.hd hc) _ a (qaR hlt) its.toArray,⟨⟨_,qar _ rfl,rfl,rfl⟩,pl.isList.push _⟩,fun i v s' Q' E' hP hQ=> ?_,fun h' tk hk=> ?_⟩
 ·have hv:its[i]? = some v:=by simpa using hP
  obtain ⟨hi,_⟩:=qac.mp hv
  have hlen:bs.length=its.length:=by rw [<- r'.length,qaH]
  have hb:(bs.map V.bl)[i]? = some (V.bl bs[i]):=by simp [hlen,hi]
  obtain ⟨u',hu,ru⟩:=r'.get hb
  rw [hv] at hu
  cases hu
  cases ru
  have e:(bs[i]?).getD true=bs[i]:=by simp [hlen,hi]
  have hQ:Q' ((bs[i]?).getD true) s':=hQ
  rw [e] at hQ
  exact wpAny_truthy_bool hQ
 ·have e:((List.range its.toArray.size).all fun i=>(bs[i]?).getD true)=bs.all id:=by
   have hlen:bs.length=its.length:=by rw [<- r'.length,qaH]
   rw [qaA, <-hlen]
   rw [Bool.eq_iff_iff,List.all_eq_true,List.all_eq_true]
   constructor
   ·intro h x hx
    obtain ⟨i,hi⟩:=List.mem_iff_getElem?.mp hx
    have hl:=(qac.mp hi).1
    have:=h i (by simpa using hl)
    rw [hi] at this
    exact this
   ·intro h i hi
    have hl:i<bs.length:=by simpa using hi
    have e1:bs[i]? = some bs[i]:=by simp [hl]
    rw [e1]
    exact h _ (List.getElem_mem hl)
  rw [e]
  refine ⟨.bl _,H,I.grown (s':={s with heap:=h',toks:=tk}) rfl rfl fun b ob eb=>hk b ob (fun z=> ?_) (qag _ eb),rfl,q⟩
  simp only [qaP,qaF,or_false] at z
  exact qaN _ (z▸qaQ eb)
end
end L2
namespace L3
open PySem PySem.Spec PyProof.Rows L2 LT
section
variable {X:Cx} {E:XE} {e:Expr} {es:List Expr} {pos p:Pos} {fs:Sd->M (List D)} {x:Str}
theorem zlq {id:String} {F:List D->M D} (hc:zaD X (.builtin id) (zhs X.K E F)) (hg:Gl X x) (hm:X.mg x=none) (hv:bootBuiltins x=some (.builtin id)) (ha:SA X E (e::es) fs) (hn:x≠"__name__":=by decide) (hdb:(x==("__debug__":Str))=false:=by decide)
  (he:starEach (e::es) X.env=(false,eval e X.env)::starEach es X.env:=by rfl) (hpl:(backTo pos (starEach es X.env)).any (·.1)=false:=by rfl):SE X E (.Call (.Name x p) (e::es) [] pos) (fun sd=>do let ds<-fs sd;F ds):=
 PE.imp (zdm hc hg hm hv ha hn hdb he hpl) fun σ H Q ⟨ι,h,sd,L,hh,q⟩=>⟨ι,h,sd,L,hh,Fin.bind q fun ds h1 ι1 H1 e1 s1 hr1 q1 vs rv=>⟨ι1,h1,ds,rv,hr1,q1⟩⟩
theorem ziN {T:String} {F:List D->M D} (hc:zaD X (.type T) (zhs X.K E F)) (hg:Gl X x) (hm:X.mg x=none) (hv:bootBuiltins x=some (.type T)) (ha:SA X E (e::es) fs) (hn:x≠"__name__":=by decide) (hdb:(x==("__debug__":Str))=false:=by decide)
  (he:starEach (e::es) X.env=(false,eval e X.env)::starEach es X.env:=by rfl) (hpl:(backTo pos (starEach es X.env)).any (·.1)=false:=by rfl):SE X E (.Call (.Name x p) (e::es) [] pos) (fun sd=>do let ds<-fs sd;F ds):=
 PE.imp (za3 hc hg hm hv ha hn hdb he hpl) fun σ H Q ⟨ι,h,sd,L,hh,q⟩=>⟨ι,h,sd,L,hh,Fin.bind q fun ds h1 ι1 H1 e1 s1 hr1 q1 vs rv=>⟨ι1,h1,ds,rv,hr1,q1⟩⟩
noncomputable def zmk:D->M (List D)
 | .tup ds=>pure ds
 | .lst ds=>pure ds
 | .scr ds=>pure ds
 | .cel n=>zaf n
 | _=>M.bad
theorem zdf {K:W.Frag} {ι:Io} {H:Hp} {h:Hh} {d:D} {v:V} {α:Type} {f:List D->M α} {P:α->Io->Hp->Prop} (hr:zaQ K ι H h) (r:Rel K ι H d v) (q:Fin K E ι H ((do let ds<-zmk d;f ds) h) P):
  ∃ a vs ds,v= .ref a/\((SqL K H a vs/\ ∀ ts,d≠ .tup ts)\/(SqT K H a vs/\d= .tup ds))/\zam K ι H ds vs/\Fin K E ι H (f ds h) P:=by
 cases d with
 | tup ds=>
  obtain ⟨a,vs,e,h1,h2⟩:=zcn r
  exact ⟨a,vs,ds,e,.inr ⟨h1,rfl⟩,h2,q⟩
 | lst ds=>
  obtain ⟨a,vs,e,h1,h2⟩:=zdU r
  exact ⟨a,vs,ds,e,.inl ⟨h1,fun _ z=>by cases z⟩,h2,q⟩
 | scr ds=>
  obtain ⟨a,vs,e,h1,h2⟩:=zjB r
  exact ⟨a,vs,ds,e,.inl ⟨h1,fun _ z=>by cases z⟩,h2,q⟩
 | cel n=>
  have q':Fin K E ι H (M.bind (zaf n) f h) P:=q
  unfold M.bind at q'
  cases z:zaf n h with
  | bad=>rw [z] at q';exact qa0 q'
  | exc c h'=>unfold zaf at z;split at z<;>cases z
  | ok ds h'=>
   rw [z] at q'
   obtain ⟨rfl,z2⟩:=zb5 z
   obtain ⟨a,vs,e,hn,hH,rl⟩:=hr.read r z2
   exact ⟨a,vs,ds,e,.inl ⟨SqL.of hH,fun _ z=>by cases z⟩,rl,q'⟩
 | _=>exact qa0 q
theorem zlX {K:W.Frag} {H:Hp} {a:Addr} {vs:List V} {d:D} {ds:List D} (h:(SqL K H a vs/\ ∀ ts,d≠ .tup ts)\/(SqT K H a vs/\d= .tup ds)):SqL K H a vs\/SqT K H a vs:=h.imp And.left And.left
theorem zre {K:W.Frag} {ι:Io} {H:Hp} {d:D} {xs:List V} (h:zam K ι H [d] xs): ∃ v,xs=[v]/\Rel K ι H d v:=by
 simp only [zam] at h
 obtain ⟨v,r,rfl,h1,rfl⟩:=h
 exact ⟨v,rfl,h1⟩
noncomputable def zmu {α:Type} (f:D->M α):List D->M α
 | [d]=>f d
 | _=>M.bad
theorem zcb {α:Type} {K:W.Frag} {ι:Io} {H:Hp} {h:Hh} {f:D->M α} {ds:List D} {xs:List V} {P:α->Io->Hp->Prop} (rl:zam K ι H ds xs) (q:Fin K E ι H (zmu f ds h) P): ∃ d v,xs=[v]/\Rel K ι H d v/\Fin K E ι H (f d h) P:=by
 match ds,rl,q with
 | [d],rl,q=>
  obtain ⟨v,e,r⟩:=zre rl
  exact ⟨d,v,e,r,q⟩
 | [],_,q=>exact qa0 q
 | _::_::_,_,q=>exact qa0 q
noncomputable def zh9:List D->M D:=zmu fun d=>do let ds<-zmk d;pure (.int ds.length)
theorem zbA:zaD X (.builtin "len") (zhs X.K E zh9):=by
 refine zaD.imp zgE fun xs H Q ⟨ι,h,ds,rl,hr,q⟩=> ?_
 obtain ⟨d,v,e,r,q⟩:=zcb rl q
 obtain ⟨a,vs,ds',e',hs,rl',q⟩:=zdf hr r q
 exact ⟨a,vs,by rw [e,e'],zlX hs,Fin.out hr q _ (by rw [rl'.length];simp [Rel])⟩
noncomputable def zbr:List D->M D:=zmu fun d=>do let ds<-zmk d;pure (.tup ds)
theorem zaC:zaD X (.type "tuple") (zhs X.K E zbr):=by
 refine zaD.imp zfF fun xs H Q ⟨ι,h,ds,rl,hr,q⟩=> ?_
 obtain ⟨d,v,e,r,q⟩:=zcb rl q
 obtain ⟨a,vs,ds',e',hs,rl',q⟩:=zdf hr r q
 refine ⟨a,vs,by rw [e,e'],?_⟩
 rcases hs with ⟨hs,_⟩ | ⟨hs,hd⟩
 ·exact .inl ⟨hs,fun l hl=>zmy hr rl' q hl⟩
 ·exact .inr ⟨hs,Fin.out hr q _ (by rw [<- e', <-hd];exact r)⟩
noncomputable def zlO:List D->M D:=zmu fun d=>do let ds<-zmk d;pure (.lst ds)
theorem zfc:zaD X (.type "list") (zhs X.K E zlO):=by
 refine zaD.imp zfV fun xs H Q ⟨ι,h,ds,rl,hr,q⟩=> ?_
 obtain ⟨d,v,e,r,q⟩:=zcb rl q
 obtain ⟨a,vs,ds',e',hs,rl',q⟩:=zdf hr r q
 exact ⟨a,vs,by rw [e,e'],zlX hs,fun l hl=>zmM hr rl' q hl⟩
noncomputable def two2 (g:Int->Int->Int):List D->M D
 | [.int i,.int j]=>pure (.int (g i j))
 | _=>M.bad
theorem two2_inv {K:W.Frag} {ι:Io} {H:Hp} {h:Hh} {g:Int->Int->Int} {ds:List D} {xs:List V} {P:D->Io->Hp->Prop} (hr:zaQ K ι H h) (rl:zam K ι H ds xs) (q:Fin K E ι H (two2 g ds h) P): ∃ i j,xs=[.int i,.int j]/\P (.int (g i j)) ι H:=by
 unfold two2 at q
 split at q
 ·simp only [zam,Rel] at rl
  obtain ⟨v,r,rfl,rfl,v',r',rfl,rfl,rfl⟩:=rl
  exact ⟨_,_,rfl,Fin.out hr q⟩
 ·exact qa0 q
noncomputable def zkX:=two2 fun i j=>if j>i then j else i
noncomputable def zlV:=two2 fun i j=>if j<i then j else i
theorem zeW (hc:X.calm=true):zaD X (.builtin "max") (zhs X.K E zkX):=by
 refine zaD.imp (zkf hc) fun xs H Q ⟨ι,h,ds,rl,hr,q⟩=> ?_
 obtain ⟨i,j,e,q⟩:=two2_inv hr rl q
 exact ⟨i,j,e,q _ (by simp [Rel])⟩
theorem ze1 (hc:X.calm=true):zaD X (.builtin "min") (zhs X.K E zlV):=by
 refine zaD.imp (zjr hc) fun xs H Q ⟨ι,h,ds,rl,hr,q⟩=> ?_
 obtain ⟨i,j,e,q⟩:=two2_inv hr rl q
 exact ⟨i,j,e,q _ (by simp [Rel])⟩
noncomputable def zkW:List D->Option (List Bool)
 | []=>some []
 | .bl b::r=>(zkW r).map (b:: ·)
 | _=>none
noncomputable def zci:List D->Option (List Int)
 | []=>some []
 | .int i::r=>(zci r).map (i:: ·)
 | _=>none
theorem zfG {K:W.Frag} {ι:Io} {H:Hp}: ∀ {ds:List D} {vs:List V} {bs:List Bool},zam K ι H ds vs->zkW ds=some bs->vs=bs.map V.bl
 | [],_,_,h,e=>by simp only [zam] at h;subst h;cases e;rfl
 | d::ds,_,bs,h,e=>by
  simp only [zam] at h
  obtain ⟨v,r,rfl,h1,h2⟩:=h
  cases d with
  | bl b=>
   unfold zkW at e
   cases z:zkW ds with
   | none=>rw [z] at e;cases e
   | some cs=>
    rw [z] at e
    cases e
    simp only [Rel] at h1
    rw [h1,zfG h2 z]
    rfl
  | _=>cases e
theorem zcw {K:W.Frag} {ι:Io} {H:Hp}: ∀ {ds:List D} {vs:List V} {bs:List Int},zam K ι H ds vs->zci ds=some bs->vs=bs.map V.int
 | [],_,_,h,e=>by simp only [zam] at h;subst h;cases e;rfl
 | d::ds,_,bs,h,e=>by
  simp only [zam] at h
  obtain ⟨v,r,rfl,h1,h2⟩:=h
  cases d with
  | int b=>
   unfold zci at e
   cases z:zci ds with
   | none=>rw [z] at e;cases e
   | some cs=>
    rw [z] at e
    cases e
    simp only [Rel] at h1
    rw [h1,zcw h2 z]
    rfl
  | _=>cases e
theorem Fin.ofOb {α β:Type} {K:W.Frag} {ι:Io} {H:Hp} {h:Hh} {o:Option α} {f:α->M β} {P:β->Io->Hp->Prop} (q:Fin K E ι H ((do let a<-L3.ofO o;f a) h) P): ∃ a,o=some a/\Fin K E ι H (f a h) P:=by
 cases o with
 | none=>exact qa0 q
 | some a=>exact ⟨a,rfl,q⟩
noncomputable def zkP:List D->M D:=zmu fun d=>match d with
 | .lst ds=>do let bs<-ofO (zkW ds);pure (.bl (bs.all id))
 | _=>M.bad
theorem zcv (hc:X.calm=true):zaD X (.builtin "all") (zhs X.K E zkP):=by
 refine zaD.imp (zkH hc) fun xs H Q ⟨ι,h,ds,rl,hr,q⟩=> ?_
 obtain ⟨d,v,e,r,q⟩:=zcb rl q
 cases d with
 | lst ds=>
  obtain ⟨a,vs,e',h1,h2⟩:=zdU r
  obtain ⟨bs,eb,q⟩:=Fin.ofOb q
  have:=zfG h2 eb
  subst this
  exact ⟨a,bs,by rw [e,e'],h1,Fin.out hr q _ (by simp [Rel])⟩
 | _=>exact qa0 q
noncomputable def zsf:List D->M D:=zmu fun d=>match d with
 | .lst ds=>do let bs<-ofO (zci ds);pure (.int bs.sum)
 | _=>M.bad
noncomputable def zcy:List D->M D:=zmu fun d=>do
 let ds<-zmk d
 let ns<-ofO (zci ds)
 if ns.length<64 then pure (.lst ((zba ns).map D.int)) else M.bad
theorem zbQ (hc:X.calm=true):zaD X (.builtin "sorted") (zhs X.K E zcy):=by
 refine zaD.imp (zdT hc) fun xs H Q ⟨ι,h,ds,rl,hr,q⟩=> ?_
 obtain ⟨d,v,e,r,q⟩:=zcb rl q
 obtain ⟨a,vs,ds',e',hs,rl',q⟩:=zdf hr r q
 obtain ⟨ns,en,q⟩:=Fin.ofOb q
 have:=zcw rl' en
 subst this
 obtain ⟨hl,q⟩:=Fin.guard q
 exact ⟨a,ns,by rw [e,e'],.inr ⟨⟨hl,zlX hs⟩,fun l hl=>zmM hr (zbx.mpr rfl) q hl⟩⟩
noncomputable def zbR (d:D):M D:=do
 let ds<-zmk d
 let ns<-ofO (zci ds)
 if (ns.foldl step_dedup []).length<64/\ns.length<4000 then pure (.lst ((zhj ns).map D.int)) else M.bad
theorem zii {p1 p2 pos2:Pos} {f:Sd->M D} (hc:X.calm=true) (hg1:Gl X "sorted") (hm1:X.mg "sorted"=none) (hg2:Gl X "set") (hm2:X.mg "set"=none) (he:SE X E e f)
  (h1:starEach [.Call (.Name "set" p2) [e] [] pos2] X.env=[(false,eval (.Call (.Name "set" p2) [e] [] pos2) X.env)]:=by rfl) (h2:starEach [e] X.env=[(false,eval e X.env)]:=by rfl):
  SE X E (.Call (.Name "sorted" p1) [.Call (.Name "set" p2) [e] [] pos2] [] pos) (fun sd=>do let d<-f sd;zbR d):=by
 refine PE.imp (zdm (zdT hc) hg1 hm1 boot_sorted (zaE (za3 (ziY hc) hg2 hm2 PyProof.Rows.boot_set (zaE he za8 h2) (he:=h2)) za8 h1) (he:=h1)) fun σ H Q ⟨ι,h,sd,L,hh,q⟩=>⟨ι,h,sd,L,hh,Fin.bind q fun d h1 ι1 H1 e1 s1 hr1 q1 v rv=> ?_⟩
 obtain ⟨a,vs,ds',e',hs,rl',q2⟩:=zdf hr1 rv q1
 obtain ⟨ns,en,q3⟩:=Fin.ofOb q2
 have:=zcw rl' en
 subst this
 obtain ⟨hl,q4⟩:=Fin.guard q3
 refine ⟨a,ns,by rw [e'],zlX hs,hl.2,fun p hp=> ?_⟩
 have hr2:zaQ X.K ι1 (upd H1 p (zjd X.prog X.w p ns)) h1:=hr1.laid hp
 exact ⟨p,ns,rfl,.inl ⟨⟨hl.1,zax⟩,fun l hl'=>zmM hr2 (zbx.mpr rfl) (Fin.step (hr1.laidS hp) q4) hl'⟩⟩
end
noncomputable def tyD:D->M String
 | .non=>pure "NoneType"
 | .bl _=>pure "bool"
 | .int _=>pure "int"
 | .str _=>pure "str"
 | .tup _=>pure "tuple"
 | .lst _=>pure "list"
 | .dct=>pure "dict"
 | .cel n=>do let _<-zaf n;pure "list"
 | _=>M.bad
noncomputable def zi5:List String:=["NoneType","bool","int","str","tuple","list","dict"]
noncomputable def isB (T t:String):Bool:=t==T || (t=="bool" && T=="int")
noncomputable def zeK (T:String) (d:D):M D:=do let t<-tyD d;pure (.bl (isB T t))
def zil (T:String):Prop:= ∀ (K:W.Frag), ∀ t∈zi5,W.kitOne K (.type t) (.type T)=some (isB T t)
noncomputable def zr9 (t T:String):Option Bool:=if ((Value.type t)==(Value.type T))=true then some true else if W.kitMeta T=true then (fastBuiltinMro t).map (·.contains (Value.type T)) else none
theorem zfJ {T:String} (h:(zi5.all fun t=>zr9 t T==some (isB T t))=true):zil T:=fun K t ht=>by
 have:=List.all_eq_true.mp h t ht
 have e:W.kitOne K (.type t) (.type T)=zr9 t T:=rfl
 rw [e]
 exact beq_iff_eq.mp this
theorem zke:zil "int":=zfJ (by decide +kernel)
theorem zd3:zil "bool":=zfJ (by decide +kernel)
theorem zev:zil "tuple":=zfJ (by decide +kernel)
section
variable {X:Cx} {E:XE} {α:Type}
theorem znA {K:W.Frag} {ι:Io} {H:Hp} {h:Hh} {d:D} {v:V} {f:String->M α} {P:α->Io->Hp->Prop} (hr:zaQ K ι H h) (r:Rel K ι H d v) (q:Fin K E ι H ((do let t<-tyD d;f t) h) P):
  ∃ t,t∈zi5/\zhn K H v (.type t)/\Fin K E ι H (f t h) P:=by
 cases d with
 | non=>simp only [Rel] at r;subst r;exact ⟨_,by decide,.non,q⟩
 | bl b=>simp only [Rel] at r;subst r;exact ⟨_,by decide,.bl b,q⟩
 | int b=>simp only [Rel] at r;subst r;exact ⟨_,by decide,.int b,q⟩
 | str b=>simp only [Rel] at r;subst r;exact ⟨_,by decide,.str b,q⟩
 | tup ds=>
  simp only [Rel] at r
  obtain ⟨a,vs,e,h1,h2⟩:=r
  subst e
  exact ⟨_,by decide,.tup h1.1,q⟩
 | lst ds=>
  simp only [Rel] at r
  obtain ⟨a,vs,e,h1,h2⟩:=r
  subst e
  exact ⟨_,by decide,.lst h1.1,q⟩
 | dct=>
  simp only [Rel] at r
  obtain ⟨a,e,h1,h2⟩:=r
  subst e
  exact ⟨_,by decide,.dK h1,q⟩
 | cel n=>
  have q':Fin K E ι H (M.bind (zaf n) (fun _=>f "list") h) P:=by
   have e:(do let t<-tyD (.cel n);f t:M α)=(zaf n>>=fun _=>f "list"):=by
    show ((zaf n>>=fun _=>pure "list")>>=f)=_
    simp only [bind_assoc,pure_bind]
   rw [e] at q
   exact q
  unfold M.bind at q'
  cases z:zaf n h with
  | bad=>rw [z] at q';exact qa0 q'
  | exc c h'=>unfold zaf at z;split at z<;>cases z
  | ok ds h'=>
   rw [z] at q'
   obtain ⟨rfl,z2⟩:=zb5 z
   obtain ⟨a,vs,e,hn,hH,rl⟩:=hr.read r z2
   subst e
   exact ⟨_,by decide,.lst hH,q'⟩
 | _=>exact qa0 q
theorem zll:zaD X (.builtin "isinstance") (fun xs H Q=> ∃ x t T b,xs=[x,.ty T]/\zhn X.K H x t/\W.kitOne X.K t (.type T)=some b/\Q (.bl b) H):=by
 intro pins s σ H xs us Q I r h
 obtain ⟨x,t,T,b,rfl,ty,e,q⟩:=h
 cases r with
 | cons r1 r2=>
  cases r2 with
  | cons r3 r4=>
   cases r4
   cases r3
   exact zj3 I r1 ty e fun tk=>⟨.bl b,H,I.tok tk,rfl,q⟩
theorem zqt {a:Expr} {x:Str} {T:String} {p1 p2 pos:Pos} {fa:Sd->M D} (hk:zil T) (hg:Gl X "isinstance") (hm:X.mg "isinstance"=none) (hgT:Gl X x) (hmT:X.mg x=none) (hvT:bootBuiltins x=some (.type T)) (ha:SE X E a fa)
  (hn:x≠"__name__":=by decide) (hd:(x==("__debug__":Str))=false:=by decide)
  (h1:starEach [a,.Name x p2] X.env=(false,eval a X.env)::starEach [.Name x p2] X.env:=by rfl) (h2:starEach [.Name x p2] X.env=[(false,eval (.Name x p2) X.env)]:=by rfl)
  (hpl:(backTo pos (starEach [.Name x p2] X.env)).any (·.1)=false:=by rfl):
  SE X E (.Call (.Name "isinstance" p1) [a,.Name x p2] [] pos) (fun sd=>do let d<-fa sd;zeK T d):=by
 refine PE.imp (zdm zll hg hm PyProof.Rows.boot_isinstance (zaE ha (zaE (zkb (v:= .ty T) hgT hmT hvT rfl hn hd) za8 h2) h1) (he:=h1) (hpl:=hpl)) fun σ H Q ⟨ι,h,sd,L,hh,q⟩=>⟨ι,h,sd,L,hh,Fin.bind q fun d h1 ι1 H1 e1 s1 hr1 q1 v rv=> ?_⟩
 obtain ⟨t,ht,ty,q2⟩:=znA hr1 rv q1
 exact ⟨v,.type t,T,isB T t,rfl,ty,hk X.K t ht,Fin.out hr1 q2 _ (by simp [Rel])⟩
noncomputable def dIs:D->D->M D
 | .bl a,.bl b=>pure (.bl (a==b))
 | _,_=>M.bad
noncomputable def zqD:D->D->M D
 | .bl a,.bl b=>pure (.bl (a != b))
 | _,_=>M.bad
theorem zo9:OpR X (compareOp .Is) (zdq X.K E dIs):=by
 intro pins s σ H x y v u Q I rx ry ⟨ι,h,d1,d2,r1,r2,hr,q⟩
 unfold dIs at q
 split at q
 ·simp only [Rel] at r1 r2
  subst r1 r2
  cases rx
  cases ry
  exact is_bool (zoL I (Fin.out hr q _ (by simp [Rel])) rfl)
 ·exact qa0 q
noncomputable def zeN (xs:List D) (lo hi:Option Int):List D:=(xs.drop (HT.sIx xs.length 0 lo)).take (HT.sIx xs.length xs.length hi - HT.sIx xs.length 0 lo)
noncomputable def dSl (d:D) (lo hi:Option Int):M D:=match d with
 | .tup ds=>pure (.tup (zeN ds lo hi))
 | .lst ds=>pure (.lst (zeN ds lo hi))
 | _=>M.bad
noncomputable def zsn (K:W.Frag) (E:XE) (f:Sd->M (Option Int)):TO:=fun σ H Q=> ∃ ι h sd,zbJ K ι H sd σ/\zaQ K ι H h/\Fin K E ι H (f sd h) fun o ι' H'=>Q o H'
noncomputable abbrev SO (X:Cx) (E:XE) (e:Option Expr) (f:Sd->M (Option Int)):Prop:=PO X e (zsn X.K E f)
theorem PO.imp {e:Option Expr} {t t':TO} (h:PO X e t) (m: ∀ σ H Q,t' σ H Q->t σ H Q):PO X e t':=fun pins s σ H Q I q=>h pins s σ H Q I (m _ _ _ q)
noncomputable def zdZ:Sd->M (Option Int):=fun _=>pure none
noncomputable def zmV:D->M (Option Int)
 | .int i=>pure (some i)
 | _=>M.bad
noncomputable def zdX (f:Sd->M D):Sd->M (Option Int):=fun sd=>do let d<-f sd;zmV d
theorem zcs:SO X E none zdZ:=PO.imp znZ fun σ H Q ⟨ι,h,sd,L,hh,q⟩=>Fin.out hh q
theorem zcp {e:Expr} {f:Sd->M D} (h:SE X E e f):SO X E (some e) (zdX f):=by
 refine PO.imp (znx h) fun σ H Q ⟨ι,h,sd,L,hh,q⟩=>⟨ι,h,sd,L,hh,Fin.bind q fun d h1 ι1 H1 e1 s1 hr1 q1 v rv=> ?_⟩
 cases d with
 | int i=>simp only [Rel] at rv;exact ⟨i,rv,Fin.out hr1 q1⟩
 | _=>exact qa0 q1
noncomputable def cSl (f:Sd->M D) (lo hi:Sd->M (Option Int)):Sd->M D:=fun sd=>do let d<-f sd;let l<-lo sd;let u<-hi sd;dSl d l u
theorem zbN {e:Expr} {lo hi:Option Expr} {p2 pos:Pos} {f:Sd->M D} {fl fh:Sd->M (Option Int)} (he:SE X E e f) (hl:SO X E lo fl) (hu:SO X E hi fh):SE X E (.Subscript e (.Slice lo hi none p2) pos) (cSl f fl fh):=by
 refine PE.imp (zls (zm3.or (zpV.or znR)) he hl hu) fun σ H Q ⟨ι,h,sd,L,hh,q⟩=>⟨ι,h,sd,L,hh,Fin.bind q fun d h1 ι1 H1 e1 s1 hr1 q1 v rv=> ?_⟩
 refine ⟨ι1,h1,sd,L.step s1,hr1,Fin.bind q1 fun l h2 ι2 H2 e2 s2 hr2 q2=> ?_⟩
 refine ⟨ι2,h2,sd,(L.step s1).step s2,hr2,Fin.bind q2 fun u h3 ι3 H3 e3 s3 hr3 q3=> ?_⟩
 have rv3:=(rv.step s2).step s3
 cases d with
 | tup ds=>
  obtain ⟨a,vs,e,k1,k2⟩:=zcn rv3
  by_cases hw:HT.sIx vs.length 0 l=0/\HT.sIx vs.length vs.length u=vs.length
  ·refine .inl ⟨a,vs,e,k1,hw,?_⟩
   have ec:zeN ds l u=ds:=by
    unfold zeN
    rw [k2.length,hw.1,hw.2, <-k2.length]
    simp
   refine Fin.out hr3 q3 _ ?_
   rw [ec, <-e]
   exact rv3
  ·refine .inr (.inl ⟨a,vs,e,k1,hw,fun p hp=>zmy hr3 ?_ q3 hp⟩)
   unfold zeN zmq
   rw [k2.length]
   exact zam.take _ (zam.drop _ k2)
 | lst ds=>
  obtain ⟨a,vs,e,k1,k2⟩:=zdU rv3
  refine .inr (.inr ⟨a,vs,e,k1,fun p hp=>zmM hr3 ?_ q3 hp⟩)
  unfold zeN zmq
  rw [k2.length]
  exact zam.take _ (zam.drop _ k2)
 | _=>exact qa0 q3
noncomputable def zqZ:D->M D
 | .tup ds=>pure (.tup ds.reverse)
 | _=>M.bad
theorem zqb {e:Expr} {p2 pos p3 p4:Pos} {j:Nat} {f:Sd->M D} (he:SE X E e f):SE X E (.Subscript e (.Slice none none (some (.UnaryOp .USub (.Constant (.int 1) j p3) p4)) p2) pos) (fun sd=>do let d<-f sd;zqZ d):=by
 refine PE.imp (zqu he (PE.imp (zpY zl8 zmp) fun σ H Q q=>⟨1,rfl,q⟩)) fun σ H Q ⟨ι,h,sd,L,hh,q⟩=>⟨ι,h,sd,L,hh,Fin.bind q fun d h1 ι1 H1 e1 s1 hr1 q1 v rv=> ?_⟩
 cases d with
 | tup ds=>
  obtain ⟨a,vs,e,k1,k2⟩:=zcn rv
  exact ⟨a,vs,e,k1,fun p hp=>zmy hr1 k2.reverse q1 hp⟩
 | _=>exact qa0 q1
noncomputable def ziM (x y:D):M D:=match x,y with
 | .int i,.int j=>if (zb1 i || zb1 j)=true then pure (.int (i*j)) else M.bad
 | .tup xs,.int k=>if xs≠[]/\2<=k/\k<1000/\xs.length*k.toNat<=sizeLine then pure (.tup (List.replicate k.toNat xs).flatten) else M.bad
 | _,_=>M.bad
theorem zam.rep {K:W.Frag} {ι:Io} {H:Hp} {ds:List D} {vs:List V} (h:zam K ι H ds vs): ∀ n,zam K ι H (List.replicate n ds).flatten (List.replicate n vs).flatten
 | 0=>zam.nil
 | n+1=>by
  rw [List.replicate_succ,List.replicate_succ,List.flatten_cons,List.flatten_cons]
  exact zam.append h (zam.rep h n)
theorem zcW:OpR X (binaryOp .Mult) (zdq X.K E ziM):=by
 refine OpR.imp (zoO.or zoq) fun x y H Q ⟨ι,h,d1,d2,r1,r2,hr,q⟩=> ?_
 unfold ziM at q
 split at q
 ·simp only [Rel] at r1 r2
  obtain ⟨c,q⟩:=Fin.guard q
  refine .inl ⟨_,_,r1,r2,?_,Fin.out hr q _ (by simp [Rel])⟩
  rcases (Bool.or_eq_true _ _).mp c with z | z
  ·exact .inl (zel z)
  ·exact .inr (zel z)
 ·simp only [Rel] at r2
  obtain ⟨a,vs,e,k1,k2⟩:=zcn r1
  obtain ⟨⟨c1,c2,c3,c4⟩,q⟩:=Fin.guard q
  refine .inr ⟨a,_,vs,e,r2,k1,fun z=>c1 ?_,c2,c3,by rw [<- k2.length];exact c4,fun p hp=>zmy hr (k2.rep _) q hp⟩
  subst z
  exact List.eq_nil_of_length_eq_zero k2.length
 ·exact qa0 q
theorem ziu {pins:List (Addr×Obj)} {σ:L2.St} {H:Hp} {s:Shared} (I:Inv X pins σ H s):sysModules<s.heap.objs.size:=
 Nat.lt_trans (by decide) (show mainGlobals<s.heap.objs.size from (I.mod.glob.keeps I.bk).lt)
theorem zlw {pos:Pos}:PE X (.Dict [] [] pos) (fun _ H Q=> ∀ p,H p=none->Q (.ref p) (upd H p (.dK []))):=fun pins s σ H Q I h=>
 wpAny_Dict_empty ⟨.ref s.heap.objs.size,_,I.laid (a:=s.heap.objs.size) (o:= .dK []) (t':=s.toks) (fun _ _ q=>qag _ q) (qaV _)
   ⟨Nat.zero_le _,beq_eq_false_iff_ne.mpr (Ne.symm (qaR (ziu I))),[],.nil,Heap.DictOf.new s.heap⟩,rfl,h _ (I.hok.fresh (qaV _))⟩
theorem zlj {pos:Pos}:SE X E (.Dict [] [] pos) (fun _=>pure .dct):=by
 refine PE.imp zlw fun σ H Q ⟨ι,h,sd,L,hh,q⟩ p hp=> ?_
 exact q ι _ (hh.laidS hp) (hh.laid hp) _ (by
   simp only [Rel]
   exact ⟨p,rfl,zax,hh.nin hp⟩)
mutual
noncomputable def pdH (h:Hh):D->Option PyData
 | .non=>some .none
 | .bl b=>some (.bool b)
 | .int i=>some (.int i)
 | .str x=>some (.str x)
 | .tup xs=>(ziK h xs).map .tuple
 | .lst xs=>(ziK h xs).map .list
 | .cel n=>match h[n]? with
  | some (.lst ds)=>(pdL ds).map .list
  | _=>none
 | _=>none
noncomputable def ziK (h:Hh):List D->Option (List PyData)
 | []=>some []
 | x::xs=>match pdH h x,ziK h xs with
  | some a,some r=>some (a::r)
  | _,_=>none
end
mutual
theorem zjI {pins:List (Addr×Obj)} {σ:L2.St} {H:Hp} {s:Shared} {ι:Io} {h:Hh} (I:Inv X pins σ H s) (hr:zaQ X.K ι H h): ∀ {d:D} {v:V} {u:Value} {p:PyData},Rel X.K ι H d v->zbk v u->pdH h d=some p-> ∃ as,Reads s.heap u p as
 | .non,v,u,p,r,ru,e=>by simp only [Rel] at r;subst r;cases ru;simp only [pdH] at e;cases e;exact ⟨_,.none⟩
 | .bl b,v,u,p,r,ru,e=>by simp only [Rel] at r;subst r;cases ru;simp only [pdH] at e;cases e;exact ⟨_,.bool _⟩
 | .int i,v,u,p,r,ru,e=>by simp only [Rel] at r;subst r;obtain ⟨t,rfl⟩:=ru;simp only [pdH] at e;cases e;exact ⟨_,.int _ _⟩
 | .str i,v,u,p,r,ru,e=>by simp only [Rel] at r;subst r;obtain ⟨t,rfl⟩:=ru;simp only [pdH] at e;cases e;exact ⟨_,.str _ _⟩
 | .tup ds,v,u,p,r,ru,e=>by
  obtain ⟨a,vs,rfl,h1,h2⟩:=zcn r
  cases ru
  obtain ⟨its,rv,pl,_⟩:=I.tuple h1
  obtain ⟨o,ho,hc,n,hd⟩:=pl
  simp only [pdH] at e
  cases z:ziK h ds with
  | none=>rw [z] at e;cases e
  | some ps=>
   rw [z] at e;cases e
   obtain ⟨as,q⟩:=zgZ I hr h2 rv z
   exact ⟨_,.tuple ho hc hd (by simpa using q)⟩
 | .lst ds,v,u,p,r,ru,e=>by
  obtain ⟨a,vs,rfl,h1,h2⟩:=zdU r
  cases ru
  obtain ⟨its,rv,pl,_⟩:=I.list h1
  obtain ⟨o,ho,hc,n,hd⟩:=pl.isList
  simp only [pdH] at e
  cases z:ziK h ds with
  | none=>rw [z] at e;cases e
  | some ps=>
   rw [z] at e;cases e
   obtain ⟨as,q⟩:=zgZ I hr h2 rv z
   exact ⟨_,.list ho hc hd (by simpa using q)⟩
 | .cel m,v,u,p,r,ru,e=>by
  simp only [pdH] at e
  cases z0:h[m]? with
  | none=>rw [z0] at e;cases e
  | some c=>
   rw [z0] at e
   cases c with
   | dit ks=>cases e
   | ins _ _=>cases e
   | dead=>cases e
   | dic _=>cases e
   | lst ds=>
    obtain ⟨a,vs,rfl,hn,hH,rl⟩:=hr.read r z0
    cases ru
    obtain ⟨its,rv,pl,_⟩:=I.list (SqL.of hH)
    obtain ⟨o,ho,hc,n,hd⟩:=pl.isList
    cases z:pdL ds with
    | none=>simp only [z] at e;cases e
    | some ps=>
     simp only [z] at e;cases e
     obtain ⟨as,q⟩:=zf7 I rl rv z
     exact ⟨_,.list ho hc hd (by simpa using q)⟩
 | .scr ds,_,_,_,_,_,e=>by simp only [pdH] at e;cases e
 | .set xs,_,_,_,_,_,e=>by simp only [pdH] at e;cases e
 | .dct,_,_,_,_,_,e=>by simp only [pdH] at e;cases e
 | .fn _,_,_,_,_,_,e=>by simp only [pdH] at e;cases e
 | .exn _,_,_,_,_,_,e=>by simp only [pdH] at e;cases e
theorem zgZ {pins:List (Addr×Obj)} {σ:L2.St} {H:Hp} {s:Shared} {ι:Io} {h:Hh} (I:Inv X pins σ H s) (hr:zaQ X.K ι H h): ∀ {ds:List D} {vs:List V} {us:List Value} {ps:List PyData},zam X.K ι H ds vs->zaM vs us->ziK h ds=some ps-> ∃ as,ReadsAll s.heap us ps as
 | [],vs,us,ps,r,ru,e=>by simp only [zam] at r;subst r;cases ru;simp only [ziK] at e;cases e;exact ⟨_,.nil⟩
 | d::ds,vs,us,ps,r,ru,e=>by
  simp only [zam] at r
  obtain ⟨v,vr,rfl,r1,r2⟩:=r
  cases ru with
  | cons ru1 ru2=>
   simp only [ziK] at e
   cases z:pdH h d with
   | none=>rw [z] at e;cases e
   | some a=>
    cases z2:ziK h ds with
    | none=>rw [z,z2] at e;cases e
    | some b=>
     rw [z,z2] at e
     cases e
     obtain ⟨as,q1⟩:=zjI I hr r1 ru1 z
     obtain ⟨bs,q2⟩:=zgZ I hr r2 ru2 z2
     exact ⟨_,.cons q1 q2⟩
end
noncomputable def zpG (x y:D):M D:=fun h=>match pdH h x,pdH h y with
 | some a,some b=>if zfv a b=true then .ok (.bl (PyData.eqv a b)) h else .bad
 | _,_=> .bad
theorem zqr (hu:X.A.units+60<cLine):OpR X (compareOp .Eq) (zdq X.K E zpG):=by
 intro pins s σ H x y v u Q I rx ry ⟨ι,h,d1,d2,r1,r2,hr,q⟩
 unfold zpG at q
 cases e1:pdH h d1 with
 | none=>rw [e1] at q;exact qa0 q
 | some a=>
  cases e2:pdH h d2 with
  | none=>rw [e1,e2] at q;exact qa0 q
  | some b=>
   rw [e1,e2] at q
   dsimp only at q
   by_cases c:zfv a b=true
   ·rw [qa4 c] at q
    obtain ⟨c1,c2,c3⟩:=zfD c
    obtain ⟨as,ra⟩:=zjI I hr r1 rx e1
    obtain ⟨bs,rb⟩:=zjI I hr r2 ry e2
    exact SeqAt.compareEq_reads ra rb c1 c2 (by omega) ⟨.bl _,H,I,rfl,q ι H (za6.refl _ _) hr (.bl _) (by simp [Rel])⟩
   ·rw [qa5 c] at q
    exact qa0 q
end
noncomputable abbrev FE:=Sd->M D
noncomputable abbrev FT:=Sd->M Bool
noncomputable abbrev FA:=Sd->M (List D)
noncomputable abbrev FS:=Sd->M Out
noncomputable def cOp (F:D->D->M D) (a b:FE):FE:=fun sd=>do let x<-a sd;let y<-b sd;F x y
noncomputable def cUn (F:D->M D) (a:FE):FE:=fun sd=>do let x<-a sd;F x
noncomputable def zaz (F:List D->M D) (a:FA):FE:=fun sd=>do let ds<-a sd;F ds
noncomputable def zgL (F:D->D->M D) (a b:FE):FT:=fun sd=>do let z<-(do let x<-a sd;let y<-b sd;F x y);zcJ z
noncomputable def zgM (a:FE):FT:=fun sd=>do let x<-a sd;zcJ x
noncomputable def zfO (t:FT):FT:=fun sd=>do let c<-t sd;pure (!c)
noncomputable def zsk (t u:FT):FT:=fun sd=>do let c<-t sd;if c=true then u sd else pure false
noncomputable def tOr (t u:FT):FT:=fun sd=>do let c<-t sd;if c=true then pure true else u sd
noncomputable def znk (a b:FE):FE:=fun sd=>do let c<-(do let x<-a sd;zcJ x);if c=true then b sd else pure (.bl false)
noncomputable def cOr (a b:FE):FE:=fun sd=>do let c<-(do let x<-a sd;zcJ x);if c=true then pure (.bl true) else b sd
noncomputable def zqW (a:FE):FE:=fun sd=>do let c<-(do let x<-a sd;zcJ x);pure (.bl (!c))
noncomputable def cIf (t:FT) (a b:FE):FE:=fun sd=>do let c<-t sd;if c=true then a sd else b sd
noncomputable def cK (d:D):FE:=fun _=>pure d
noncomputable def zan:FA:=fun _=>pure []
noncomputable def zab (a:FE) (r:FA):FA:=fun sd=>do let x<-a sd;let r<-r sd;pure (x::r)
noncomputable def zcZ (fs:FA):FE:=fun sd=>do let ds<-fs sd;fits ds.length;pure (.tup ds)
noncomputable def zeJ (fs:FA):FE:=fun sd=>do let ds<-fs sd;fits ds.length;pure (.lst ds)
noncomputable def zgO (fs:FA):FE:=fun sd=>do let ds<-fs sd;fits ds.length;zc2 ds
noncomputable def zfN:FS:=fun sd=>pure (.nx sd)
noncomputable def zaw (g g':FS):FS:=fun sd=>do let o<-g sd;andThen o g'
noncomputable def zbO (i:Nat) (f:FE):FS:=fun sd=>do let d<-f sd;pure (.nx (sd.set i (some d)))
noncomputable def zbY (f:FE):FS:=fun sd=>do let d<-f sd;pure (.rt d)
noncomputable def sIf (t:FT) (g g':FS):FS:=fun sd=>do let c<-t sd;if c=true then g sd else g' sd
noncomputable def zom (fi:FA) (g:D->Sd->M Sd) (gb:FS):FS:=fun sd=>do let ds<-fi sd;zbd (fun x sd=>do let sd1<-g x sd;gb sd1) ds sd
noncomputable def zqf (f:FE) (g:D->Sd->M Sd):FS:=fun sd=>do let d<-f sd;let sd'<-g d sd;pure (.nx sd')
noncomputable def zgu (f:FE):FS:=fun sd=>do let _<-f sd;pure (.nx sd)
noncomputable def iSq (f:FE):FA:=fun sd=>do let d<-f sd;zf8 d
noncomputable def zg3 (fs:FA):FA:=fun sd=>do let ds<-fs sd;zj5 ds
noncomputable def zkU (fo fi:FE):D->Sd->M Sd:=fun d sd=>do let x<-fo sd;let y<-fi sd;zjb x y d;pure sd
section
variable {X:Cx} {E:XE} {a b e c:Expr} {es:List Expr} {pos p p1 p2:Pos} {fa fb f:FE} {fs:FA} {x:Str}
theorem zac (i:Nat) (hN:X.N[i]? = some x:=by rfl) (hv:Vis X.env.scope x:=by first | exact Or.inl rfl | exact Or.inr (Or.inl rfl) | exact Or.inr (Or.inr rfl)) (hd:(x==("__debug__":Str))=false:=by decide) (hcd:(x==("__classdict__":Str))=false:=by decide):SE X E (.Name x pos) (zag i):=zpW i hN hv hd hcd
theorem zai {i:Int} {j:Nat}:SE X E (.Constant (.int i) j pos) (cK (.int i)):=zpm
theorem zkC {i:Bool} {j:Nat}:SE X E (.Constant (.bool i) j pos) (cK (.bl i)):=zrQ
theorem zpn {j:Nat}:SE X E (.Constant .none j pos) (cK .non):=zpU
theorem zcA {i:Str} {j:Nat}:SE X E (.Constant (.str i) j pos) (cK (.str i)):=zpB
theorem za7 {op:Operator} {F:D->D->M D} (ho:OpR X (binaryOp op) (zdq X.K E F)) (ha:SE X E a fa) (hb:SE X E b fb):SE X E (.BinOp a op b pos) (cOp F fa fb):=zrm ho ha hb
theorem zhd {op:CmpOp} {F:D->D->M D} (ho:OpR X (compareOp op) (zdq X.K E F)) (ha:SE X E a fa) (hb:SE X E b fb) (hm:behindInMarks op b=false:=by rfl):SE X E (.Compare a [op] [b] pos) (cOp F fa fb):=zoR ho ha hb hm
theorem zb2 {op:CmpOp} {F:D->D->M D} (ho:OpR X (compareOp op) (zdq X.K E F)) (ha:SE X E a fa) (hb:SE X E b fb) (hm:behindInMarks op b=false:=by rfl):ST X E (.Compare a [op] [b] pos) (zgL F fa fb):=zqn ho ha hb hm
theorem zb4 (ha:SE X E a fa) (hb:SE X E b fb) (hs:zfi b:=by intro _ _;rfl):SE X E (.Subscript a b pos) (cOp dIx fa fb):=zqG zsK ha hb hs
theorem zj9 (ha:SE X E a fa):SE X E (.UnaryOp .USub a pos) (cUn zmd fa):=zpb ha
theorem zpu (ha:SE X E a fa):SE X E (.UnaryOp .Not a pos) (zqW fa):=zp0 ha
theorem zj8 {op:BoolOp} (h:SE X E a fa):SE X E (.BoolOp op [a] pos) fa:=zqM h
theorem zjM {rest:List Expr} (ha:SE X E a fa) (hb:SE X E (.BoolOp .And (b::rest) pos) fb):SE X E (.BoolOp .And (a::b::rest) pos) (znk fa fb):=zo3 ha hb
theorem zcQ (h:SE X E e f) (he: ∀ whole,isTrue e X.env whole=(do let v<-whole;standAt e.pos;holding [v] (truthy v)):=by intro _;rfl):ST X E e (zgM f):=zpK h he
theorem zcN {t:FT} (ha:ST X E a t):ST X E (.UnaryOp .Not a pos) (zfO t):=zpa ha
theorem zf4 {t:FT} (ha:ST X E a t):PW X (.BoolOp .Or [a] pos) (zhc X.K E t):=zpX ha
theorem zjN {rest:List Expr} {t u:FT} (ha:ST X E a t) (hb:PW X (.BoolOp .Or (b::rest) pos) (zhc X.K E u)):PW X (.BoolOp .Or (a::b::rest) pos) (zhc X.K E (tOr t u)):=zrb ha hb
theorem zew {op:BoolOp} {vs:List Expr} {t:FT} (h:PW X (.BoolOp op vs pos) (zhc X.K E t)):ST X E (.BoolOp op vs pos) t:=znW h
theorem ziR {env:Env} (h: ∀ v p,e≠ .Starred v p):starEach (e::es) env=(false,eval e env)::starEach es env:=by
 cases e<;>first | rfl | exact absurd rfl (h _ _)
theorem zad:SA X E [] zan:=zqi
theorem zaa (ha:SE X E e fa) (hr:SA X E es fs) (hs:starEach (e::es) X.env=(false,eval e X.env)::starEach es X.env:=by exact ziR (fun _ _ z=>nomatch z)):SA X E (e::es) (zab fa fs):=znf ha hr hs
theorem zbu {k} (h:SA X E es fs):SE X E (.Tuple es k pos) (zcZ fs):=zoN h
theorem zcc (h:SA X E es fs):SE X E (.List es pos) (zeJ fs):=zql h
theorem zgG (h:SA X E es fs):SE X E (.List es pos) (zgO fs):=zov h
theorem znM:SE X E (.Dict [] [] pos) (cK .dct):=zlj
theorem zro {p3 p4:Pos} {j:Nat} (he:SE X E e f):SE X E (.Subscript e (.Slice none none (some (.UnaryOp .USub (.Constant (.int 1) j p3) p4)) p2) pos) (cUn zqZ f):=zqb he
theorem zaL {id:String} {F:List D->M D} (hc:zaD X (.builtin id) (zhs X.K E F)) (hv:bootBuiltins x=some (.builtin id)) (hm:X.mg x=none) (ha:SA X E (e::es) fs) (hg:Gl X x:=by rfl) (hn:x≠"__name__":=by decide) (hdb:(x==("__debug__":Str))=false:=by decide)
  (he:starEach (e::es) X.env=(false,eval e X.env)::starEach es X.env:=by rfl) (hpl:(backTo pos (starEach es X.env)).any (·.1)=false:=by rfl):SE X E (.Call (.Name x p) (e::es) [] pos) (zaz F fs):=zlq hc hg hm hv ha hn hdb he hpl
theorem zaO {T:String} {F:List D->M D} (hc:zaD X (.type T) (zhs X.K E F)) (hv:bootBuiltins x=some (.type T)) (hm:X.mg x=none) (ha:SA X E (e::es) fs) (hg:Gl X x:=by rfl) (hn:x≠"__name__":=by decide) (hdb:(x==("__debug__":Str))=false:=by decide)
  (he:starEach (e::es) X.env=(false,eval e X.env)::starEach es X.env:=by rfl) (hpl:(backTo pos (starEach es X.env)).any (·.1)=false:=by rfl):SE X E (.Call (.Name x p) (e::es) [] pos) (zaz F fs):=ziN hc hg hm hv ha hn hdb he hpl
theorem zfK {T:String} (hk:zil T) (hvT:bootBuiltins x=some (.type T)) (hm:X.mg "isinstance"=none) (hmT:X.mg x=none) (ha:SE X E a fa) (hg:Gl X "isinstance":=by rfl) (hgT:Gl X x:=by rfl)
  (hn:x≠"__name__":=by decide) (hd:(x==("__debug__":Str))=false:=by decide)
  (h1:starEach [a,.Name x p2] X.env=(false,eval a X.env)::starEach [.Name x p2] X.env:=by rfl) (h2:starEach [.Name x p2] X.env=[(false,eval (.Name x p2) X.env)]:=by rfl)
  (hpl:(backTo pos (starEach [.Name x p2] X.env)).any (·.1)=false:=by rfl):SE X E (.Call (.Name "isinstance" p1) [a,.Name x p2] [] pos) (cUn (zeK T) fa):=zqt hk hg hm hgT hmT hvT ha hn hd h1 h2 hpl
theorem zfS {pos2:Pos} (hc:X.calm=true) (hm1:X.mg "sorted"=none) (hm2:X.mg "set"=none) (he:SE X E e f) (hg1:Gl X "sorted":=by rfl) (hg2:Gl X "set":=by rfl)
  (h1:starEach [.Call (.Name "set" p2) [e] [] pos2] X.env=[(false,eval (.Call (.Name "set" p2) [e] [] pos2) X.env)]:=by rfl) (h2:starEach [e] X.env=[(false,eval e X.env)]:=by rfl):
  SE X E (.Call (.Name "sorted" p1) [.Call (.Name "set" p2) [e] [] pos2] [] pos) (cUn zbR f):=zii hc hg1 hm1 hg2 hm2 he h1 h2
theorem zao {k:Nat} {g:Addr} {fd:FuncData} {ps:List Str} {n:Nat} {F:List D->M D} (G:zbw X.prog X.w X.K X.mg X.base CX0 k g fd ps (zb6 X.K n F)) (hr:zcO k X.A) (hm:X.mg x=some (.ref g)) (hk:W.keepIn X.K (.ref g)=true) (hb:zaN X.K fd ps [])
  (ha:SA X E0x (e::es) fs) (hg:Gl X x:=by rfl) (hdb:(x==("__debug__":Str))=false:=by decide) (he:starEach (e::es) X.env=(false,eval e X.env)::starEach es X.env:=by rfl) (hpl:(backTo pos (starEach es X.env)).any (·.1)=false:=by rfl):
  SE X E0x (.Call (.Name x p) (e::es) [] pos) (zaz (zaq n F) fs):=zny G hr hg hm hk hb ha hdb he hpl
theorem zbM:SSs X E [] zfN:=zoH
theorem zar {st:Stmt} {g:FS} (h1:SS X E st g):SSs X E [st] g:=zqj h1
theorem zaj {st:Stmt} {rest:List Stmt} {g g':FS} (h1:SS X E st g) (h2:SSs X E rest g'):SSs X E (st::rest) (zaw g g'):=znG h1 h2
theorem zaX (he:SE X E e f):SS X E (.Return (some e) pos) (zbY f):=zrI he
theorem zhr {ys ns:List Stmt} {t:FT} {g g':FS} (hc:ST X E c t) (ha:SSs X E ys g) (hb:SSs X E ns g'):SS X E (.If c ys ns pos) (sIf t g g'):=zsE hc ha hb
theorem zhH (he:SE X E e f) (hs:swapsWith e none pos.line X.env=pure false:=by rfl):SS X E (.Expr e pos) (zgu f):=zqd he hs
theorem zaS (i:Nat) (hN:X.N.Nodup) (he:SE X E e f) (hi:X.N[i]? = some x:=by rfl) (hx:Loc X.env.scope x:=by first | exact Or.inl rfl | exact Or.inr rfl) (hf:X.fn x=true\/X.env.scope.names.lookup x=some .local:=by first | exact Or.inl rfl | exact Or.inr rfl)
  (hs:swapsWith e (some (.Name x p)) pos.line X.env=pure false:=by rfl):SS X E (.Assign [.Name x p] e pos) (zbO i f):=zq7 i hN hi hx hf he hs
theorem zou {tg:Expr} {g:D->Sd->M Sd} (he:SE X E e f) (hg:SG X E tg g) (hs:swapsWithSole [tg] e pos.line X.env=pure false:=by rfl) (hw:swappedStores [tg] e X.env=pure none:=by rfl)
  (h1:(assignEach [tg] X.env).map (·.2)=[assign tg X.env]:=by rfl):SS X E (.Assign [tg] e pos) (zqf f g):=zrB he hg hs hw h1
theorem zav (i:Nat) (hN:X.N.Nodup) (hi:X.N[i]? = some x:=by rfl) (hx:Loc X.env.scope x:=by first | exact Or.inl rfl | exact Or.inr rfl) (hf:X.fn x=true\/X.env.scope.names.lookup x=some .local:=by first | exact Or.inl rfl | exact Or.inr rfl):SG X E (.Name x pos) (za1 i):=znc i hN hi hx hf
theorem zdE:SGs X E [] zc3:=zm5
theorem za4 {g:D->Sd->M Sd} {gs:List D->Sd->M Sd} (h1:SG X E e g) (h2:SGs X E es gs) (hs:(assignEach (e::es) X.env).map (·.2)=assign e X.env::(assignEach es X.env).map (·.2):=by rfl):SGs X E (e::es) (zaR g gs):=zlR h1 h2 hs
theorem ze5 {k n:Nat} {gs:List D->Sd->M Sd} (hc:X.calm=true) (h:SGs X E es gs) (hn:(assignEach es X.env).length=n:=by rfl) (hst:(assignEach es X.env).findIdx? (·.1)=none:=by rfl):SG X E (.Tuple es k pos) (zcV n gs):=zoU hc h hn hst
theorem zmv (ho:SE X E a fa) (hi:SE X E b fb) (ha: ∀ v,assign (.Subscript a b pos) X.env v=(do
      let ov<-holding [v] (eval a X.env)
      let iv<-holding [v,ov] (eval b X.env)
      standAt pos
      holding [v,ov,iv] (setItem ov iv v)
      release [v,ov,iv] []):=by intro _;rfl):SG X E (.Subscript a b pos) (zkU fa fb):=zo7 fun hs=>zqC ho hi hs ha
theorem zeE {tg:Expr} (he:SE X E e f):SI X E tg e (iSq f):=zoG he
theorem zeO {tg:Expr} (hm:X.mg "range"=none) (ha:SA X E [a] fs) (hg:Gl X "range":=by rfl) (hs:starEach [a] X.env=[(false,eval a X.env)]:=by rfl):SI X E tg (.Call (.Name "range" p) [a] [] pos) (zg3 fs):=znz hg hm ha hs
theorem zjV {tg iter:Expr} {body:List Stmt} {fi:FA} {g:D->Sd->M Sd} {gb:FS} (hc:X.calm=true) (hp:PassesOwn (model X.prog X.w) X.A X.env X.xe) (hi:SI X E tg iter fi) (hg:SG X E tg g) (hb:SSs X E body gb)
  (hs: ∀ x,foldedSetIterable iter X.env x=pure x:=by intro _;rfl):SS X E (.For tg iter body [] pos) (zom fi g gb):=zrt hc hp hi hg hb hs
theorem zbG:SCs X E [] (fun _=>pure true):=zpw
theorem zh4 {t:FT} (h:ST X E c t):SCs X E [c] t:=zqs h
theorem zbC {scope:Scope} {N:List Str} {src:List (Option Nat)} {tg iter elt:Expr} {ifs:List Expr} {fi:FA} {g:D->Sd->M Sd} {tc:FT} {te:FE} (hc:X.calm=true) (B:BOk X scope N src) (hk:zaF g src) (hi:SI X E tg iter fi)
  (hg: ∀ s H fp,SG (cxB X scope N s H fp) E tg g) (ht: ∀ s H fp,SCs (cxB X scope N s H fp) E ifs tc) (he: ∀ s H fp,SE (cxB X scope N s H fp) E elt te)
  (hs: ∀ x,foldedSetIterable iter X.env x=pure x:=by intro _;rfl):SE X E (.ListComp elt [⟨tg,iter,ifs,0⟩] scope pos) (zaI fi g tc te src):=zkz B hk hi hg ht he hs
theorem zgD {scope:Scope} {N:List Str} {src:List (Option Nat)} {tg iter elt:Expr} {ifs:List Expr} {fi:FA} {g:D->Sd->M Sd} {tc:FT} {te:FE} (i:Nat) {y:Str} {py spos:Pos} (hc:X.calm=true) (hN:X.N.Nodup) (B:BOk X scope N src) (hk:zaF g src) (hi:SI X E tg iter fi)
  (hg: ∀ s H fp,SG (cxB X scope N s H fp) E tg g) (ht: ∀ s H fp,SCs (cxB X scope N s H fp) E ifs tc) (he: ∀ s H fp,SE (cxB X scope N s H fp) E elt te)
  (hy:X.N[i]? = some y:=by rfl) (hx:Loc X.env.scope y:=by first | exact Or.inl rfl | exact Or.inr rfl) (hf:X.fn y=true\/X.env.scope.names.lookup y=some .local:=by first | exact Or.inl rfl | exact Or.inr rfl) (hsw:swapsWith (.ListComp elt [⟨tg,iter,ifs,0⟩] scope pos) (some (.Name y py)) spos.line X.env=pure true:=by rfl)
  (hs: ∀ x,foldedSetIterable iter X.env x=pure x:=by intro _;rfl):SS X E (.Assign [.Name y py] (.ListComp elt [⟨tg,iter,ifs,0⟩] scope pos) spos) (zbO i (zaI fi g tc te src)):=zji i B hk hi hg ht he hN hy hx hf hsw hs
end
theorem zaQ.empty {K:W.Frag} {H:Hp}:zaQ K ⟨[],[]⟩ H []:=⟨rfl,fun m n a h=>by simp at h,fun n a c h=>by simp at h,fun n h=>by simp at h,fun a h=>by cases h⟩
theorem zrq {K:W.Frag} {F:List D->M D} {H:Hp} {a:Addr} {ns:List Int} (hS:SqL K H a (ns.map V.int)) (hm: ∃ h',F [.scr (ns.map D.int)] []= .ok (.bl true) h'):zb6 K 1 F [.ref a] H (fun v _=>v= .bl true) fun _ _ _=>False:=by
 obtain ⟨h',e⟩:=hm
 refine ⟨rfl,⟨[],[]⟩,[],[.scr (ns.map D.int)],zam.cons ?_ zam.nil,zaQ.empty,?_⟩
 ·simp only [Rel]
  refine ⟨a,ns.map V.int,rfl,?_,zbx.mpr rfl⟩
  rcases hS with h | h
  ·exact .inl ⟨h,fun z=>by rcases z with z | z<;>cases z⟩
  ·exact .inr (.inr h)
 ·rw [e]
  intro ι1 H1 s hr v rv
  simpa [Rel] using rv
section
variable {sd:Sd} {a b:FE} {fs:FA} {t u:FT} {g g':FS} {F:D->D->M D}
@[simp] theorem zbX:cOp F a b sd=(do let x<-a sd;let y<-b sd;F x y):=rfl
@[simp] theorem zlu {F:D->M D}:cUn F a sd=(do let x<-a sd;F x):=rfl
@[simp] theorem zbg {F:List D->M D}:zaz F fs sd=(do let ds<-fs sd;F ds):=rfl
@[simp] theorem zed:zgL F a b sd=(do let z<-(do let x<-a sd;let y<-b sd;F x y);zcJ z):=rfl
@[simp] theorem zqw:zgM a sd=(do let x<-a sd;zcJ x):=rfl
@[simp] theorem zpl:zfO t sd=(do let c<-t sd;pure (!c)):=rfl
@[simp] theorem zps:zsk t u sd=(do let c<-t sd;if c=true then u sd else pure false):=rfl
@[simp] theorem zr1:tOr t u sd=(do let c<-t sd;if c=true then pure true else u sd):=rfl
@[simp] theorem zjS:znk a b sd=(do let c<-(do let x<-a sd;zcJ x);if c=true then b sd else pure (.bl false)):=rfl
@[simp] theorem zr3:cOr a b sd=(do let c<-(do let x<-a sd;zcJ x);if c=true then pure (.bl true) else b sd):=rfl
@[simp] theorem zi6:zqW a sd=(do let c<-(do let x<-a sd;zcJ x);pure (.bl (!c))):=rfl
@[simp] theorem zrg:cIf t a b sd=(do let c<-t sd;if c=true then a sd else b sd):=rfl
@[simp] theorem ze6 {d:D}:cK d sd=pure d:=rfl
@[simp] theorem za0:zan sd=pure []:=rfl
@[simp] theorem zaK:zab a fs sd=(do let x<-a sd;let r<-fs sd;pure (x::r)):=rfl
@[simp] theorem zfY:zcZ fs sd=(do let ds<-fs sd;fits ds.length;pure (.tup ds)):=rfl
@[simp] theorem zhJ:zeJ fs sd=(do let ds<-fs sd;fits ds.length;pure (.lst ds)):=rfl
@[simp] theorem zfn:zgO fs sd=(do let ds<-fs sd;fits ds.length;zc2 ds):=rfl
@[simp] theorem zge:zfN sd=pure (.nx sd):=rfl
@[simp] theorem za5:zaw g g' sd=(do let o<-g sd;andThen o g'):=rfl
@[simp] theorem zcB {i:Nat}:zbO i a sd=(do let d<-a sd;pure (.nx (sd.set i (some d)))):=rfl
@[simp] theorem zcu:zbY a sd=(do let d<-a sd;pure (.rt d)):=rfl
@[simp] theorem zkL:sIf t g g' sd=(do let c<-t sd;if c=true then g sd else g' sd):=rfl
@[simp] theorem zka {fi:FA} {gt:D->Sd->M Sd}:zom fi gt g sd=(do let ds<-fi sd;zbd (fun x sd=>do let sd1<-gt x sd;g sd1) ds sd):=rfl
@[simp] theorem zhY {gt:D->Sd->M Sd}:zqf a gt sd=(do let d<-a sd;let sd'<-gt d sd;pure (.nx sd')):=rfl
@[simp] theorem znD:zgu a sd=(do let _<-a sd;pure (.nx sd)):=rfl
@[simp] theorem zqx:iSq a sd=(do let d<-a sd;zf8 d):=rfl
@[simp] theorem zfT:zg3 fs sd=(do let ds<-fs sd;zj5 ds):=rfl
@[simp] theorem zj6 {d:D}:zkU a b d sd=(do let x<-a sd;let y<-b sd;zjb x y d;pure sd):=rfl
@[simp] theorem zdp {i:Nat} {d:D}:za1 i d sd=pure (sd.set i (some d)):=rfl
@[simp] theorem zgJ:andThen (.nx sd) g=g sd:=rfl
@[simp] theorem zqR {d:D}:andThen (.rt d) g=pure (.rt d):=rfl
@[simp] theorem zsV:andThen (.bk sd) g=pure (.bk sd):=rfl
@[simp] theorem zsZ:andThen (.ct sd) g=pure (.ct sd):=rfl
@[simp] theorem zrO:zdr (.nx sd)=pure .non:=rfl
@[simp] theorem zeV {d:D}:zdr (.rt d)=pure d:=rfl
@[simp] theorem zdd {c:Bool}:zcJ (.bl c)=pure c:=rfl
@[simp] theorem zrz {lo hi:Sd->M (Option Int)}:cSl a lo hi sd=(do let d<-a sd;let l<-lo sd;let u<-hi sd;dSl d l u):=rfl
@[simp] theorem zmT:zdZ sd=pure none:=rfl
@[simp] theorem zmR:zdX a sd=(do let d<-a sd;zmV d):=rfl
@[simp] theorem zqL {i:Int}:zmV (.int i)=pure (some i):=rfl
@[simp] theorem zq0 {ds:List D} {lo hi:Option Int}:dSl (.tup ds) lo hi=pure (.tup (zeN ds lo hi)):=rfl
@[simp] theorem zra {ds:List D}:zqZ (.tup ds)=pure (.tup ds.reverse):=rfl
@[simp] theorem zo4 {i:Int}:zmd (.int i)=pure (.int (-i)):=rfl
@[simp] theorem zcR {i j:Int}:zbv (.int i) (.int j)=pure (.int (i+j)):=rfl
@[simp] theorem zmr {xs ys:List D}:zbv (.tup xs) (.tup ys)=(do fits (xs.length+ys.length);pure (.tup (xs++ys))):=rfl
@[simp] theorem zpN {xs ys:List D}:zbv (.lst xs) (.lst ys)=(do fits (xs.length+ys.length);pure (.lst (xs++ys))):=rfl
@[simp] theorem zm8 {i j:Int}:zmS (.int i) (.int j)=pure (.int (i - j)):=rfl
@[simp] theorem zrD {i j:Int}:zr8 (.int i) (.int j)=pure (.int (Builtin.bitAnd i j)):=rfl
@[simp] theorem zsG {i j:Int}:dLt (.int i) (.int j)=pure (.bl (decide (i<j))):=rfl
@[simp] theorem zsY {i j:Int}:dLe (.int i) (.int j)=pure (.bl (decide (i<=j))):=rfl
@[simp] theorem zsI {i j:Int}:dGt (.int i) (.int j)=pure (.bl (decide (j<i))):=rfl
@[simp] theorem zs0 {i j:Int}:dGe (.int i) (.int j)=pure (.bl (decide (j<=i))):=rfl
@[simp] theorem zrF {i j:Bool}:zqD (.bl i) (.bl j)=pure (.bl (i != j)):=rfl
@[simp] theorem zp6 {ds:List D}:zh9 [.tup ds]=pure (.int ds.length):=rfl
@[simp] theorem zmx {ds:List D}:zh9 [.lst ds]=pure (.int ds.length):=rfl
@[simp] theorem zmG {ds:List D}:zh9 [.scr ds]=pure (.int ds.length):=rfl
@[simp] theorem zo1 {ds:List D}:zbr [.tup ds]=pure (.tup ds):=rfl
@[simp] theorem zgv {ds:List D}:zbr [.lst ds]=pure (.tup ds):=rfl
@[simp] theorem zqv {ds:List D}:zlO [.tup ds]=pure (.lst ds):=rfl
@[simp] theorem zr2 {ds:List D}:zf8 (.tup ds)=pure ds:=rfl
@[simp] theorem zqP {ds:List D}:zf8 (.lst ds)=pure ds:=rfl
@[simp] theorem znE {F:List D->M D} {x:D}:zaq 1 F [x]=F [x]:=rfl
@[simp] theorem zbi {F:List D->M D} {x y:D}:zaq 2 F [x,y]=F [x,y]:=rfl
@[simp] theorem zm4 {F:List D->M D} {x y z:D}:zaq 3 F [x,y,z]=F [x,y,z]:=rfl
@[simp] theorem zd4 {body:D->Sd->M Out}:zbd body [] sd=pure (.nx sd):=rfl
theorem zc1 {body:D->Sd->M Out} {x:D} {r:List D}:zbd body (x::r) sd=(do let o<-body x sd;match o with | .nx sd'=>zbd body r sd' | .ct sd'=>zbd body r sd' | .bk sd'=>pure (.nx sd') | .rt d=>pure (.rt d)):=rfl
@[simp] theorem zjY {gs:List D->Sd->M Sd} {x y:D}:zcV 2 gs (.tup [x,y]) sd=gs [x,y] sd:=rfl
@[simp] theorem zkr:zc3 [] sd=pure sd:=rfl
@[simp] theorem zhk {gt:D->Sd->M Sd} {gs:List D->Sd->M Sd} {x:D} {r:List D}:zaR gt gs (x::r) sd=(do let sd1<-gt x sd;gs r sd1):=rfl
@[simp] theorem zmn {n:Nat} {k:Int} {d:D}:zjb (.cel n) (.int k) d=(do let ds<-zaf n;let j<-ofO (ixN ds.length k);za2 n (ds.set j d)):=rfl
@[simp] theorem zr0 {ds:List D} {i:Int}:dIx (.tup ds) (.int i)=ofO (atI ds i):=rfl
@[simp] theorem zki {ds:List D} {i:Int}:dIx (.lst ds) (.int i)=ofO (atI ds i):=rfl
@[simp] theorem zrk {ds:List D} {i:Int}:dIx (.scr ds) (.int i)=ofO (atI ds i):=rfl
@[simp] theorem zlF {n:Nat} {i:Int}:dIx (.cel n) (.int i)=(do let ds<-zaf n;ofO (atI ds i)):=rfl
@[simp] theorem zdt {α:Type} {x:α}:ofO (some x)=pure x:=rfl
@[simp] theorem zio {x:D} {r:List D}:atI (x::r) 0=some x:=by unfold atI ixN;simp
@[simp] theorem zpM {x y:D} {r:List D}:atI (x::y::r) 1=some y:=by
 have:=zfe (xs:=x::y::r) (j:=1) (v:=y) rfl
 simpa using this
end
theorem zay {n:Nat} (h:n<=1000):fits n=pure ():=by
 unfold fits
 rw [qa4 (qaS h (by decide))]
theorem zhM {i j:Int} (h:(zb1 i || zb1 j)=true):ziM (.int i) (.int j)=pure (.int (i*j)):=by
 show (if (zb1 i || zb1 j)=true then _ else _)=_
 rw [qa4 h]
theorem zhu {i:Int} (h: -1000000000000000<i) (h':i<1000000000000000):zb1 i=true:=by unfold zb1;simp;omega
theorem zf6 {i j:Int} (h: -1000000000000000<i) (h':i<1000000000000000):ziM (.int i) (.int j)=pure (.int (i*j)):=zhM (by rw [zhu h h'];rfl)
theorem zmi {i j:Int} (h: -1000000000000000<j) (h':j<1000000000000000):ziM (.int i) (.int j)=pure (.int (i*j)):=zhM (by rw [zhu h h'];simp)
theorem zes {i j:Int} (h:0<j):zob (.int i) (.int j)=pure (.int (i % j)):=by
 show (if (decide (0<j))=true then _ else _)=_
 rw [qa4 (by simpa using h)]
theorem zhI {i j:Int} (h:0<j) (h':j<2^64):zlA (.int i) (.int j)=pure (.int (i / j)):=by
 show (if (decide (0<j) && decide (j<2^64))=true then _ else _)=_
 rw [qa4 (by rw [qaG];exact ⟨by simpa using h,by simpa using h'⟩)]
theorem zoS {i j:Int}:dEq (.int i) (.int j)=pure (.bl (i==j)):=by
 unfold dEq zin
 simp only [pd]
 rw [qa4 (show zfv (.int i) (.int j)=true from rfl)]
 rfl
theorem zsH {i j:Bool}:dNe (.bl i) (.bl j)=pure (.bl (!(i==j))):=by
 unfold dNe zin
 simp only [pd]
 rw [qa4 (show zfv (.bool i) (.bool j)=true from rfl)]
 rfl
def wp {α:Type} (m:M α) (h:Hh) (P:α->Hh->Prop):Prop:= ∃ a h',m h= .ok a h'/\P a h'
section
variable {α β:Type} {h:Hh} {P P':α->Hh->Prop}
theorem zak {a:α}:wp (pure a:M α) h P↔P a h:=⟨fun ⟨b,h',e,q⟩=>by cases (show R.ok a h=R.ok b h' from e);exact q,fun q=>⟨a,h,rfl,q⟩⟩
theorem zah {m:M β} {f:β->M α}:wp (m>>=f) h P↔wp m h fun b h'=>wp (f b) h' P:=by
 constructor
 ·rintro ⟨a,h',e,q⟩
  have e:M.bind m f h= .ok a h':=e
  unfold M.bind at e
  cases z:m h with
  | ok b h1=>rw [z] at e;exact ⟨b,h1,z,a,h',e,q⟩
  | exc c h1=>rw [z] at e;cases e
  | bad=>rw [z] at e;cases e
 ·rintro ⟨b,h1,e,a,h',e2,q⟩
  refine ⟨a,h',?_,q⟩
  show M.bind m f h=_
  unfold M.bind
  rw [e]
  exact e2
theorem zgR {m:M α} (q:wp m h P) (k: ∀ a h',P a h'->P' a h'):wp m h P':=by
 obtain ⟨a,h',e,q⟩:=q
 exact ⟨a,h',e,k _ _ q⟩
theorem zbf {n:Nat} {ds:List D} {P:List D->Hh->Prop} (e:h[n]? = some (.lst ds)):wp (zaf n) h P↔P ds h:=by
 unfold wp zaf
 rw [e]
 exact ⟨fun ⟨b,h',e,q⟩=>by cases e;exact q,fun q=>⟨_,_,rfl,q⟩⟩
theorem zgC {n:Nat} {ds:List D} {P:Unit->Hh->Prop}:wp (za2 n ds) h P↔P () (h.set n (.lst ds)):=⟨fun ⟨b,h',e,q⟩=>by cases (show R.ok () (h.set n (.lst ds))=R.ok b h' from e);exact q,fun q=>⟨_,_,rfl,q⟩⟩
theorem zhN {ds:List D} {P:D->Hh->Prop}:wp (zc2 ds) h P↔P (.cel h.length) (h++[.lst ds]):=⟨fun ⟨b,h',e,q⟩=>by cases (show R.ok (D.cel h.length) (h++[C.lst ds])=R.ok b h' from e);exact q,fun q=>⟨_,_,rfl,q⟩⟩
end
theorem zdM {f:D->M (Option D)} {k:D->Option D}: ∀ {ds:List D},(∀ x∈ds,f x=pure (k x))->zbo f ds=pure (ds.filterMap k)
 | [],_=>rfl
 | x::r,hf=>by
  rw [zbo,hf x qau,zdM fun y hy=>hf y (qan _ hy)]
  simp only [pure_bind]
  cases e:k x<;>simp [qat,e]
theorem zdF {fi:FA} {g:D->Sd->M Sd} {tc:FT} {te:FE} {src:List (Option Nat)} {sd:Sd} {ds:List D} {k:D->Option D} (hi:fi sd=pure ds) (hl:ds.length<=1000) (hf: ∀ x∈ds,zaY g tc te (zal src sd) x=pure (k x)):zaI fi g tc te src sd=pure (.lst (ds.filterMap k)):=by
 unfold zaI
 rw [hi]
 simp only [pure_bind]
 rw [zay hl]
 simp only [pure_bind]
 rw [zdM hf]
 simp only [pure_bind]
theorem zkd {fi:FA} {g:D->Sd->M Sd} {tc:FT} {te:FE} {src:List (Option Nat)} {sd:Sd} {ds:List D} {k:D->D} (hi:fi sd=pure ds) (hl:ds.length<=1000) (hf: ∀ x∈ds,zaY g tc te (zal src sd) x=pure (some (k x))):zaI fi g tc te src sd=pure (.lst (ds.map k)):=by
 rw [zdF (k:=fun x=>some (k x)) hi hl hf]
 simp
theorem zid: ∀ bs:List Bool,zkW (bs.map D.bl)=some bs
 | []=>rfl
 | b::r=>by rw [qaM,zkW,zid r];rfl
theorem zaP: ∀ bs:List Int,zci (bs.map D.int)=some bs
 | []=>rfl
 | b::r=>by rw [qaM,zci,zaP r];rfl
theorem zfz (bs:List Bool):zkP [.lst (bs.map D.bl)]=pure (.bl (bs.all id)):=by
 show (do let bs<-ofO (zkW (bs.map D.bl));pure (.bl (bs.all id)):M D)=_
 rw [zid]
 rfl
theorem zfW {d:D} {xs:List Int} (e:zmk d=pure (xs.map D.int)) (h:(xs.foldl step_dedup []).length<64) (h2:xs.length<4000):zbR d=pure (.lst ((zhj xs).map D.int)):=by
 unfold zbR
 rw [e]
 show (do let ns<-ofO (zci (xs.map D.int));if (ns.foldl step_dedup []).length<64/\ns.length<4000 then pure (.lst ((zhj ns).map D.int)) else M.bad:M D)=_
 rw [zaP]
 show (if (xs.foldl step_dedup []).length<64/\xs.length<4000 then (pure (.lst ((zhj xs).map D.int)):M D) else M.bad)=_
 rw [qa4 ⟨h,h2⟩]
theorem zhe {xs:List Int} (h:xs.length<64):zbR (.tup (xs.map D.int))=pure (.lst ((zhj xs).map D.int)):=zfW rfl (Nat.lt_of_le_of_lt (zeo xs) h) (by omega)
theorem zgq {xs:List Int} (h:xs.length<64):zbR (.lst (xs.map D.int))=pure (.lst ((zhj xs).map D.int)):=zfW rfl (Nat.lt_of_le_of_lt (zeo xs) h) (by omega)
theorem zeX {xs:List Int} (h:xs.length<64):zcy [.tup (xs.map D.int)]=pure (.lst ((zba xs).map D.int)):=by
 show (do let ns<-ofO (zci (xs.map D.int));if ns.length<64 then pure (.lst ((zba ns).map D.int)) else M.bad:M D)=_
 rw [zaP]
 show (if xs.length<64 then (pure (.lst ((zba xs).map D.int)):M D) else M.bad)=_
 rw [qa4 h]
noncomputable def kn:D->Bool
 | .non | .bl _ | .int _ | .str _ | .tup _ | .lst _ | .dct=>true
 | _=>false
noncomputable def isT:D->Bool
 | .tup _=>true
 | _=>false
noncomputable def isI:D->Bool
 | .int _=>true
 | _=>false
theorem zmf {d:D} (k:kn d=true):zeK "tuple" d=pure (.bl (isT d)):=by
 cases d<;>simp [kn] at k<;>simp [zeK,tyD,isB,isT]
theorem zjs {d:D} (k:kn d=true):zeK "int" d=pure (.bl (isI d || (match d with | .bl _=>true | _=>false))):=by
 cases d<;>simp [kn] at k<;>simp [zeK,tyD,isB,isI]
theorem zmw {d:D} (k:kn d=true):zeK "bool" d=pure (.bl (match d with | .bl _=>true | _=>false)):=by
 cases d<;>simp [kn] at k<;>simp [zeK,tyD,isB,isI]
mutual
noncomputable def zjo:D->Bool
 | .non | .bl _ | .int _=>true
 | .str x=>PyData.strOk x
 | .tup ds=>decide (ds.length<64) && zg5 ds
 | .lst ds=>decide (ds.length<64) && zg5 ds
 | _=>false
noncomputable def zg5:List D->Bool
 | []=>true
 | d::r=>zjo d && zg5 r
end
mutual
theorem znm: ∀ {d:D},zjo d=true-> ∃ p,pd d=some p/\p.canLay0=true
 | .non,_=>⟨.none,rfl,rfl⟩
 | .bl b,_=>⟨.bool b,rfl,rfl⟩
 | .int i,_=>⟨.int i,rfl,rfl⟩
 | .str x,g=>⟨.str x,rfl,by simpa [zjo,PyData.canLay0] using g⟩
 | .tup ds,g=>by
  have g2:zg5 ds=true:=by simp [zjo] at g;exact g.2
  obtain ⟨ps,e,c⟩:=zfH g2
  exact ⟨.tuple ps,by unfold pd;rw [e];rfl,c⟩
 | .lst ds,g=>by
  have g2:zg5 ds=true:=by simp [zjo] at g;exact g.2
  obtain ⟨ps,e,c⟩:=zfH g2
  exact ⟨.list ps,by unfold pd;rw [e];rfl,c⟩
 | .cel _,g=>by simp [zjo] at g
 | .set _,g=>by simp [zjo] at g
 | .dct,g=>by simp [zjo] at g
 | .fn _,g=>by simp [zjo] at g
 | .scr _,g=>by simp [zjo] at g
 | .exn _,g=>by simp [zjo] at g
theorem zfH: ∀ {ds:List D},zg5 ds=true-> ∃ ps,pdL ds=some ps/\PyData.canLayAll0 ps=true
 | [],_=>⟨[],rfl,rfl⟩
 | d::r,g=>by
  simp [zg5] at g
  obtain ⟨p,e,c⟩:=znm g.1
  obtain ⟨ps,e2,c2⟩:=zfH g.2
  exact ⟨p::ps,by unfold pdL;rw [e,e2],by simp [PyData.canLayAll0,c,c2]⟩
end
theorem zbm: ∀ xs:List Int,pdL (xs.map D.int)=some (xs.map PyData.int)
 | []=>rfl
 | x::r=>by rw [qaM,pdL,zbm r];rfl
theorem zaZ: ∀ xs:List Int,PyData.canLayAll0 (xs.map PyData.int)=true
 | []=>rfl
 | x::r=>by simp [PyData.canLayAll0,PyData.canLay0,zaZ r]
theorem zbh: ∀ xs:List Int,PyData.depthAll (xs.map PyData.int)=0
 | []=>rfl
 | x::r=>by simp [PyData.depthAll,PyData.depth,zbh r]
theorem zdi: ∀ xs ys:List Int,PyData.eqvAll (xs.map PyData.int) (ys.map PyData.int)=(xs==ys)
 | [],[]=>rfl
 | [],_::_=>rfl
 | _::_,[]=>rfl
 | x::xs,y::ys=>by
  simp only [qaM,PyData.eqvAll,PyData.eqv,zdi xs ys]
  rfl
theorem zlk (xs ys:List Int):dNe (.lst (xs.map D.int)) (.lst (ys.map D.int))=pure (.bl (!(xs==ys))):=by
 show zin true _ _=_
 unfold zin
 have e1:pd (.lst (xs.map D.int))=some (.list (xs.map PyData.int)):=by unfold pd;rw [zbm];rfl
 have e2:pd (.lst (ys.map D.int))=some (.list (ys.map PyData.int)):=by unfold pd;rw [zbm];rfl
 rw [e1,e2]
 have c:zfv (.list (xs.map PyData.int)) (.list (ys.map PyData.int))=true:=by
  unfold zfv
  simp [PyData.canLay0,zaZ,PyData.depth,zbh]
 simp only [c,if_true,PyData.eqv,zdi]
theorem zfd (k:Int): ∀ xs:List Int,((xs.map PyData.int).any fun y=>PyData.eqv y (.int k))=xs.any (· == k)
 | []=>rfl
 | x::r=>by simp only [qaM,List.any_cons,zfd k r];rfl
theorem zhE (k:Int) (xs:List Int):dIn (.int k) (.tup (xs.map D.int))=pure (.bl (xs.any (· == k))):=by
 show zmo false (.int k) (.tup (xs.map D.int))=_
 unfold zmo
 simp only [pd]
 rw [zbm]
 have c:zk6 (.int k) (xs.map PyData.int)=true:=by
  unfold zk6
  simp [PyData.canLay0,zaZ,PyData.depth,zbh]
 simp only [c,if_true,zfd]
 rfl
end L3
namespace L2
open PySem PySem.Spec PyProof.Rows LT
section
variable {X:Cx}
end
end L2
namespace L3
open PySem PySem.Spec PyProof.Rows L2 LT
section
variable {X:Cx} {E:XE} {a b c o e:Expr} {pos apos cpos:Pos} {fa fb fc fo fe:FE}
noncomputable def zcl:D->M Unit
 | .cel n=>do let _<-zaf n;pure ()
 | _=>M.bad
noncomputable def zc0 (x y:D):M D:=match x with
 | .cel n=>do
  let ds<-zaf n
  fits (ds.length+1)
  za2 n (ds++[y])
  pure .non
 | _=>M.bad
noncomputable def zeH (fo fe:FE):FE:=fun sd=>do
 let x<-fo sd
 zcl x
 let y<-fe sd
 zc0 x y
theorem zdK {α:Type} {K:W.Frag} {ι:Io} {H:Hp} {h:Hh} {n:Nat} {f:List D->M α} {P:α->Io->Hp->Prop} (q:Fin K E ι H ((zaf n>>=f) h) P): ∃ ds,h[n]? = some (.lst ds)/\Fin K E ι H (f ds h) P:=by
 have q':Fin K E ι H (M.bind (zaf n) f h) P:=q
 unfold M.bind at q'
 cases z:zaf n h with
 | bad=>rw [z] at q';exact qa0 q'
 | exc c h'=>unfold zaf at z;split at z<;>cases z
 | ok ds h'=>
  rw [z] at q'
  obtain ⟨rfl,z2⟩:=zb5 z
  exact ⟨ds,z2,q'⟩
theorem zfL (ho:SE X E o fo) (he:SE X E e fe)
  (hbase:attributeBase o "append" X.env (eval o X.env)=eval o X.env:=by rfl)
  (hfew:((backTo cpos (starEach [e] X.env)).all (fun x=> !x.1) && (backToKw cpos (keywordEach [] X.env)).all (fun x=>x.1.isSome)
    && decide (([e]:List Expr).length+([]:List Keyword).length+(if ([]:List Keyword).isEmpty then 0 else 1)<30))=true:=by rfl)
  (hline:(apos.endLine==cpos.line)=true:=by rfl) (hs:starEach [e] X.env=(false,eval e X.env)::starEach [] X.env:=by rfl) (hplain:(backTo cpos (starEach [] X.env)).any (·.1)=false:=by rfl):
  SE X E (.Call (.Attribute o "append" apos) [e] [] cpos) (zeH fo fe):=by
 refine PE.imp (zjv PySem.F.plainAttrs_list PySem.F.slot_list_append PySem.F.type_list_append zgr ho (zaE he za8 hs) hbase hfew hline hs hplain) fun σ H Q ⟨ι,h,sd,L,hh,q⟩=>⟨ι,h,sd,L,hh,Fin.bind q fun d h1 ι1 H1 e1 s1 hr1 q1 v rv=> ?_⟩
 cases d with
 | cel n=>
  have q2:Fin X.K E ι1 H1 ((zaf n>>=fun _=>fe sd>>=fun y=>zc0 (.cel n) y) h1) (fun d ι' H'=> ∀ v,Rel X.K ι' H' d v->Q v H'):=by
   have ee:(zcl (.cel n)>>=fun _=>fe sd>>=fun y=>zc0 (.cel n) y:M D)=(zaf n>>=fun _=>fe sd>>=fun y=>zc0 (.cel n) y):=by
    show ((zaf n>>=fun _=>pure ())>>=fun _=>fe sd>>=fun y=>zc0 (.cel n) y)=_
    simp only [bind_assoc,pure_bind]
   rw [<- ee]
   exact q1
  obtain ⟨ds,e2,q3⟩:=zdK q2
  obtain ⟨a,vs,rfl,hn,hH,rl⟩:=hr1.read rv e2
  refine ⟨.inl ⟨rfl,vs,SqL.of hH⟩,ι1,h1,sd,L.step s1,hr1,Fin.bind q3 fun y h3 ι3 H3 e3 s3 hr3 q4 w rw'=> ?_⟩
  have rv3:=rv.step s3
  have q5:Fin X.K E ι3 H3 ((zaf n>>=fun ds=>fits (ds.length+1)>>=fun _=>za2 n (ds++[y])>>=fun _=>pure D.non) h3) (fun d ι' H'=> ∀ v,Rel X.K ι' H' d v->Q v H'):=q4
  obtain ⟨ds3,e4,q6⟩:=zdK q5
  obtain ⟨a3,vs3,ea,hn3,hH3,rl3⟩:=hr3.read rv3 e4
  cases ea
  obtain ⟨z,q7⟩:=Fin.fits q6
  refine ⟨a,vs3,w,rfl,rfl,hH3,by rw [<- rl3.length];omega,?_⟩
  have q8:Fin X.K E ι3 H3 (R.ok D.non (h3.set n (.lst (ds3++[y])))) (fun d ι' H'=> ∀ v,Rel X.K ι' H' d v->Q v H'):=q7
  exact q8 ι3 _ (hr3.cellS hn3) (hr3.cell hn3 (rl3.append (zam.cons rw' zam.nil))) _ (by simp [Rel])
 | _=>exact qa0 q1
end
end L3
namespace Att
open PySem PySem.W PySem.Calls PyProof.Rows
end Att
namespace L2
open PySem PySem.Spec PyProof.Rows
end L2
namespace L3
open PySem PySem.Spec PyProof.Rows L2 LT
section
variable {X:Cx} {E:XE}
end
end L3
namespace PySem
open Sem (wp)
open AutoSeq1 (wpAny_loadPart')
section
variable {prog:Program} {w:World} {A:Around} {E:Value->Shared->Prop} {s:Shared}
theorem zfs {Q:List Value->Shared->Prop} {r:Addr} {a b c:Int} {t u v:Tok} {n:Nat} (hh:A.handled=none) (hr:IsRange s.heap r a b c t u v) (hsmall:Builtin.Range.small a b c=true)
  (hn:Builtin.Range.rangeSize a b c=n) (hlen:n<=2^24)
  (hQ: ∀ h' tk acc,(∀ b o,s.heap.get? b=some o->h'.get? b=some o)->ItemsOf (fun i v=> ∃ t,v= .int (a+i*c) t) acc n->Q acc.toList {s with heap:=h',toks:=tk}):
  wpAny (model prog w) A (collect (.ref r)) Q E s:=by
 unfold collect
 refine qaW (wpAny_runValue (codeAny_builtin F.entry_proto_collect ?_))
 rw [qap F.plain_proto_collect _]
 show wpAny _ A.in1 (newList []>>=fun l=>again (.builtin "list.__iadd__" ⟨[l,.ref r],[]⟩)) _ _ s
 refine qaW (qaC ?_)
 refine qaX ⟨plainId_quiet F.plain_list_iadd _,codeAny_builtin F.entry_list_iadd ?_⟩
 rw [qap F.plain_list_iadd _]
 show wpAny _ A.in1 (Builtin.List.listExtendWith (.ref s.heap.objs.size) (.ref r) (.ref s.heap.objs.size)) _ _ _
 have hS:(s.heap.push {cls:= .type "list",data:= .seq ([]:List Value).toArray}).get? s.heap.objs.size=some {cls:= .type "list",data:= .seq #[] 0}:=qar _ rfl
 have zrT: ∀ (h':Heap) (tk:Nat) (acc:Array Value) (c':Nat),(∀ b o,b≠s.heap.objs.size->(s.heap.push {cls:= .type "list",data:= .seq ([]:List Value).toArray}).get? b=some o->h'.get? b=some o)->h'.get? s.heap.objs.size=some {cls:= .type "list",dict:=none,data:= .seq acc c',slots:= #[]}->
   ItemsOf (fun i v=> ∃ t,v= .int (a+i*c) t) acc n->wpAny (model prog w) A (match Value.ref s.heap.objs.size with
   | Value.ref a=>do
     match (<- load a).data with
       | Data.seq xs _=>pure xs.toList
       | _=>unsupported "internal:collect"
   | _=>unsupported "internal:collect") Q E {s with heap:=h',toks:=tk}:=fun h' tk acc c' hk hS' hacc=>by
  show wpAny _ A (load s.heap.objs.size>>=_) _ _ _
  refine qaW (wpAny_load hS' ?_)
  refine qaX ?_
  exact hQ h' tk acc (fun b o e=>hk b o (qaR (qaQ e)) (qag _ e)) hacc
 refine qaZ (wpAny_extend_range (A:=A) (s:={s with heap:=s.heap.push {cls:= .type "list",data:= .seq ([]:List Value).toArray}}) (R:=fun res s'=>res= .ok (.ret (.ref s.heap.objs.size))/\ ∃ (h':Heap) (tk:Nat) (acc:Array Value) (c':Nat),s'={s with heap:=h',toks:=tk}/\
     (∀ b o,b≠s.heap.objs.size->(s.heap.push {cls:= .type "list",data:= .seq ([]:List Value).toArray}).get? b=some o->h'.get? b=some o)/\h'.get? s.heap.objs.size=some {cls:= .type "list",dict:=none,data:= .seq acc c',slots:= #[]}/\ItemsOf (fun i v=> ∃ t,v= .int (a+i*c) t) acc n)
   hh (qag _ hr) hsmall hn hlen s.heap.objs.size (.ref s.heap.objs.size) 0 hS fun h' tk acc c' hk hS' hacc=>⟨rfl,h',tk,acc,c',rfl,hk,hS',hacc⟩) (fun fin s' h=> ?_) (fun e s' h=> ?_)
 ·cases fin with
  | done f=>
   obtain ⟨e,h',tk,acc,c',rfl,hk,hS',hacc⟩:=h
   cases e
   exact zrT h' tk acc c' hk hS' hacc
  | again c'=>exact ⟨h.1,codeAny_mono h.2 fun r s'' hr=>by obtain ⟨rfl,h',tk,acc,c',rfl,hk,hS',hacc⟩:=hr;exact zrT h' tk acc c' hk hS' hacc⟩
 ·exact absurd h.1 (by simp)
end
theorem zbs (l:Addr) (a b c:Int) (t u v:Tok) (n:Nat) (hsmall:Builtin.Range.small a b c=true) (hn:Builtin.Range.rangeSize a b c=n) (hlen:n<=2^24):
  Meets (Builtin.«tuple.__new__» ⟨[.type "tuple",.ref l],[]⟩)
   (fun A R s=>A.in1.handled=none/\IsRange s.heap l a b c t u v/\ ∀ (h':Heap) (tk:Nat) (acc:Array Value),(∀ b o',s.heap.get? b=some o'->h'.get? b=some o')->ItemsOf (fun i v=> ∃ t,v= .int (a+i*c) t) acc n->R (.ok (.ret (.ref h'.objs.size))) {s with heap:=h'.push {cls:= .type "tuple",data:= .seq acc},toks:=tk}):=
 .of_wp fun prog w A R s h=>by
  obtain ⟨hp,g,d,tk,os⟩:=s;obtain ⟨hh,ht,h⟩:=h
  have hsub:=sub_tuple_self
  have hinit:=init_tuple_lookup
  have hmh:=madeHere_tuple
  have hT:Shared.TypeIs ⟨hp,g,d,tk,os⟩ (.ref l) "range":=⟨_,ht,rfl⟩
  wp_walk using wpAny_loadPart' ht,wpAny_typeOf hT,zfs hh ht hsmall hn hlen
  intro h' tk' acc hk hacc
  show wpAny _ _ (Builtin.Tuple.tupleExact acc.toList.toArray>>=fun v=>ret v) _ _ _
  unfold Builtin.Tuple.tupleExact
  have hsz:acc.size<=sizeLine:=by
   have:acc.size=n:=hacc.1
   have:sizeLine=2^24:=rfl
   omega
  refine qaW (qaC ?_ (by show acc.toList.toArray.size<=sizeLine;simpa using hsz))
  refine qaX ⟨_,rfl,?_⟩
  have e:acc.toList.toArray=acc:=by simp
  rw [e]
  exact h h' tk' acc hk hacc
end PySem
namespace L2
open PySem PySem.Spec PyProof.Rows LT
theorem zce: ∀ (ns:List Int) (us:List Value),ns.length=us.length->(∀ (j:Nat) u,us[j]? = some u-> ∃ t,u=Value.int (ns.getD j 0) t)->zaM (ns.map V.int) us
 | [],[],_,_=> .nil
 | [],_::_,h,_=>by cases h
 | _::_,[],h,_=>by cases h
 | n::ns,u::us,h,hg=>by
  refine .cons ?_ (zce ns us (by simpa using h) fun j w e=> ?_)
  ·obtain ⟨t,e⟩:=hg 0 u rfl
   exact ⟨t,by simpa using e⟩
  ·obtain ⟨t,e⟩:=hg (j+1) w (by simpa using e)
   exact ⟨t,by simpa using e⟩
section
variable {X:Cx}
theorem zcY:zaD X (.type "range") (fun xs H Q=> ∃ j:Int,xs=[.int j]/\ ∀ p,H p=none->Q (.ref p) (upd H p (.rng 0 j))):=by
 intro pins s σ H xs us Q I r h
 obtain ⟨j,rfl,q⟩:=h
 obtain ⟨u,rfl,rx⟩:=zcI r
 obtain ⟨t,rfl⟩:=rx
 refine call_range_1 ?_
 exact ⟨.ref s.heap.objs.size,_,I.laid (t':=s.toks+1+1) (o:= .rng 0 j) (fun b ob q=>qag _ q) (qaV _) ⟨_,_,_,qar _ rfl⟩,rfl,q _ (I.hok.fresh (qaV _))⟩
theorem zhl {j:Int} (h0:0<=j):Builtin.Range.rangeSize 0 j 1=(j.toNat:Int):=by
 unfold Builtin.Range.rangeSize
 rw [qa4 (by decide)]
 split
 ·rw [Int.ediv_one];omega
 ·omega
theorem zff (hc:X.calm=true):zaD X (.type "tuple") (fun xs H Q=> ∃ (p:Addr) (j:Int),xs=[.ref p]/\H p=some (.rng 0 j)/\0<=j/\j<1000/\ ∀ l,H l=none->Q (.ref l) (upd H l (.tup (((List.range j.toNat).map fun (k:Nat)=>(k:Int)).map V.int)))):=by
 intro pins s σ H xs us Q I r h
 obtain ⟨p,j,rfl,hp,h0,h1,q⟩:=h
 obtain ⟨u,rfl,rx⟩:=zcI r
 cases rx
 obtain ⟨t,u',v,hr⟩:=(show zbb X.prog X.w H s.heap p (.rng 0 j) from I.hok p _ hp)
 refine callType_new F.called_tuple (by decide) (F.typeCall_tuple_1 _) (F.newCall_tuple_1 _) (fun obj=>F.args_object_init_2 obj _) F.entry_tuple_new
  (zbs p 0 j 1 t u' v j.toNat (small_one (by omega) (by omega) (by omega) (by omega)) (zhl h0) (by omega)) ⟨show X.A.in1.in1.handled=none from I.ok.hd hc,hr,fun h' tk acc hk hacc=>⟨⟨_,qar _ rfl,rfl⟩,?_⟩⟩
 have I1:Inv X pins σ H {s with heap:=h',toks:=tk}:=I.kept (t':=tk) hk
 have hl:acc.toList.length=j.toNat:=by rw [qas];exact hacc.1
 have I2:=I1.laid (t':=tk) (h':=h'.push {cls:= .type "tuple",data:= .seq acc}) (a:=h'.objs.size) (o:= .tup (((List.range j.toNat).map fun (k:Nat)=>(k:Int)).map V.int)) (fun b o e=>qag _ e) (qaV _)
  ⟨by rw [qaH,qaH,List.length_range];exact qaS (show j.toNat<=1000 by omega) (by decide),acc.toList,zce _ _ (by rw [qaH,List.length_range,hl]) (fun k w e=> ?_),by simpa using zh7.new _ _⟩
 ·exact ⟨.ref h'.objs.size,_,I2,rfl,q _ (I1.hok.fresh (qaV _))⟩
 ·have hk':k<j.toNat:=by rw [<- hl];exact (qac.mp e).1
  obtain ⟨t,et⟩:=hacc.2 k w (by simpa using e)
  refine ⟨t,?_⟩
  rw [et]
  simp [hk']
end
end L2
namespace L3
open PySem PySem.Spec PyProof.Rows L2 LT
section
variable {X:Cx} {E:XE} {e:Expr} {f:FE}
noncomputable def zdH:D->M D
 | .int j=>if 0<=j/\j<1000 then pure (.tup (zcP 0 j.toNat)) else M.bad
 | _=>M.bad
theorem zfm {K:W.Frag} {ι:Io} {H:Hp} {n:Nat}:zam K ι H (zcP 0 n) (((List.range n).map fun (k:Nat)=>(k:Int)).map V.int):=by
 have:zcP 0 n=((List.range n).map fun (k:Nat)=>(k:Int)).map D.int:=by unfold zcP;simp
 rw [this]
 exact zbx.mpr rfl
theorem zhC {p1 p2 pos pos2:Pos} (hc:X.calm=true) (hm1:X.mg "tuple"=none) (hm2:X.mg "range"=none) (he:SE X E e f) (hg1:Gl X "tuple":=by rfl) (hg2:Gl X "range":=by rfl)
  (h1:starEach [.Call (.Name "range" p2) [e] [] pos2] X.env=[(false,eval (.Call (.Name "range" p2) [e] [] pos2) X.env)]:=by rfl) (h2:starEach [e] X.env=[(false,eval e X.env)]:=by rfl):
  SE X E (.Call (.Name "tuple" p1) [.Call (.Name "range" p2) [e] [] pos2] [] pos) (cUn zdH f):=by
 refine PE.imp (za3 (zff hc) hg1 hm1 PyProof.Rows.boot_tuple (zaE (za3 zcY hg2 hm2 boot_range (zaE he za8 h2) (he:=h2)) za8 h1) (he:=h1)) fun σ H Q ⟨ι,h,sd,L,hh,q⟩=>⟨ι,h,sd,L,hh,Fin.bind q fun d h1 ι1 H1 e1 s1 hr1 q1 v rv=> ?_⟩
 cases d with
 | int j=>
  simp only [Rel] at rv
  obtain ⟨⟨c1,c2⟩,q2⟩:=Fin.guard q1
  refine ⟨j,by rw [rv],fun p hp=> ?_⟩
  have hr2:zaQ X.K ι1 (upd H1 p (.rng 0 j)) h1:=hr1.laid hp
  exact ⟨p,j,rfl,zax,c1,c2,fun l hl=>zmy hr2 zfm (Fin.step (hr1.laidS hp) q2) hl⟩
 | _=>exact qa0 q1
end
@[simp] theorem zaB {d:D} {r:Sd}:zag 0 (some d::r)=pure d:=rfl
@[simp] theorem zaJ {n:Nat} {x:Option D} {r:Sd}:zag (n+1) (x::r)=zag n r:=rfl
noncomputable def zdj (m:Int):Int->List D->Bool
 | _,[]=>true
 | l,.int i::r=>decide (l<=i) && decide (i<m) && zdj m (i+1) r
 | _,_::_=>false
theorem zbp {m:Int}: ∀ {xs:List Int} {l:Int},zdj m l (xs.map D.int)=true↔xs.Pairwise (· < ·)/\ ∀ x∈xs,l<=x/\x<m
 | [],l=>by simp [zdj]
 | x::r,l=>by
  rw [qaM,zdj,qaG,qaG,zbp (xs:=r) (l:=x+1),qay]
  simp only [qaD,qaP,forall_eq_or_imp]
  constructor
  ·rintro ⟨⟨h1,h2⟩,h3,h4⟩
   refine ⟨⟨fun y hy=> ?_,h3⟩,⟨h1,h2⟩,fun y hy=> ?_⟩
   ·have:=(h4 y hy).1;omega
   ·have:=h4 y hy;omega
  ·rintro ⟨⟨h1,h2⟩,⟨h3,h4⟩,h5⟩
   refine ⟨⟨h3,h4⟩,h2,fun y hy=> ?_⟩
   have a1:=h1 y hy
   have a2:=h5 y hy
   omega
theorem zfr {m:Int}: ∀ {ts:List D} {l:Int},zdj m l ts=true->ts.all isI=true
 | [],_,_=>rfl
 | d::r,l,h=>by
  cases d<;>first
   | (simp [zdj] at h;done)
   | (rw [zdj,qaG] at h;rw [List.all_cons,zfr h.2];rfl)
theorem zeq: ∀ {ts:List D},ts.all isI=true-> ∃ xs:List Int,ts=xs.map D.int
 | [],_=>⟨[],rfl⟩
 | d::r,h=>by
  rw [List.all_cons,qaG] at h
  obtain ⟨xs,e⟩:=zeq h.2
  cases d<;>first
   | (simp [isI] at h;done)
   | (rename_i i;exact ⟨i::xs,by rw [e];rfl⟩)
theorem zd2 {m:Int}: ∀ {ts:List D} {l:Int},zdj m l ts=true->l<=m->(ts.length:Int)<=m - l
 | [],l,_,h=>by simp;omega
 | d::r,l,h,hl=>by
  cases d<;>first
   | (simp [zdj] at h;done)
   | (rename_i i
      rw [zdj,qaG,qaG,qaD,qaD] at h
      have:=zd2 h.2 (by omega)
      simp
      omega)
def Bx (b:Nat) (h:Hh):Prop:= ∃ z:Int,h[b]? = some (.lst [.int z])
def Ext (b:Nat) (h h':Hh):Prop:=Bx b h'/\ ∀ (n:Nat) (c:C),n≠b->h[n]? = some c->h'[n]? = some c
theorem Ext.refl {b:Nat} {h:Hh} (q:Bx b h):Ext b h h:=⟨q,fun _ _ _ e=>e⟩
theorem Ext.trans {b:Nat} {h h1 h2:Hh} (p:Ext b h h1) (q:Ext b h1 h2):Ext b h h2:=⟨q.1,fun n c hn e=>q.2 n c hn (p.2 n c hn e)⟩
theorem Bx.set {b:Nat} {h:Hh} {z:Int} (q:Bx b h):Ext b h (h.set b (.lst [.int z])):=by
 obtain ⟨y,e⟩:=q
 have hl:=(qac.mp e).1
 exact ⟨⟨z,qai hl⟩,fun n c hn e=>by rw [qao (Ne.symm hn)];exact e⟩
theorem Bx.push {b:Nat} {h:Hh} {c:C} (q:Bx b h):Ext b h (h++[c]):=by
 obtain ⟨y,e⟩:=q
 have hl:=(qac.mp e).1
 refine ⟨⟨y,by rw [qad hl];exact e⟩,fun n c' hn e=> ?_⟩
 rw [qad (qac.mp e).1]
 exact e
theorem zbW {j:Int} (h0:0<=j) (h:j<1000):zj5 [.int j]=pure (zcP 0 j.toNat):=by
 show (if zcU j=true then _ else _)=_
 rw [qa4 (by unfold zcU;simp;omega)]
theorem zfE {n:Nat} {d:D} (h:d∈zcP 0 n): ∃ i:Int,d= .int i/\0<=i/\i<n:=by
 unfold zcP at h
 obtain ⟨k,hk,e⟩:=qaU.mp h
 have:=List.mem_range.mp hk
 exact ⟨0+(k:Int),e.symm,by omega,by omega⟩
theorem zcf {n:Nat}:(zcP 0 n).length=n:=by unfold zcP;simp
theorem zbL (n:Nat):zcP 0 n=((List.range n).map fun (k:Nat)=>(k:Int)).map D.int:=by unfold zcP;simp
theorem zi9 {α:Type} {c:Prop} [Decidable c] {a b:M α} {h:Hh} {P:α->Hh->Prop}:wp (if c then a else b) h P↔if c then wp a h P else wp b h P:=by split<;>exact Iff.rfl
theorem zm0 {m:Int} (h0:0<=m) (h:m<=1000):zrA (.int 1) (.int m)=pure (.int (1*2^m.toNat)):=by
 show (if zoy 1 m=true then _ else _)=_
 rw [qa4 (by unfold zoy;simp;omega)]
theorem zoj {i m:Int} (h0:0<=m):zrj (.int i) (.int m)=pure (.int (i / 2^m.toNat)):=by
 show (if decide (0<=m)=true then _ else _)=_
 rw [qa4 (by simpa using h0)]
theorem zi8:zoT (.int 10) (.int 12)=pure (.int 1000000000000):=by
 unfold zoT dII
 simp only
 rw [qa4 (by decide)]
 rfl
theorem znb (i:Int):Builtin.bitAnd i 1=i % 2:=by
 exact bitAnd_m1 i
theorem zdw {f:D->M (Option D)} {k:D->Option D} {h:Hh}: ∀ {ds:List D} {P:List D->Hh->Prop},(∀ x∈ds,wp (f x) h fun o h'=>o=k x/\h'=h)->P (ds.filterMap k) h->wp (zbo f ds) h P
 | [],P,_,q=>by rw [zbo,zak];exact q
 | x::r,P,hf,q=>by
  rw [zbo,zah]
  refine zgR (hf x qau) ?_
  rintro o h' ⟨rfl,rfl⟩
  rw [zah]
  refine zdw (k:=k) (fun y hy=>hf y (qan _ hy)) ?_
  rw [zak]
  cases e:k x with
  | none=>rw [qat,e] at q;exact q
  | some y=>rw [qat,e] at q;exact q
theorem ziB {fi:FA} {g:D->Sd->M Sd} {tc:FT} {te:FE} {src:List (Option Nat)} {sd:Sd} {ds:List D} {k:D->Option D} {h:Hh} {P:D->Hh->Prop} (hi:fi sd=pure ds) (hl:ds.length<=1000) (hf: ∀ x∈ds,wp (zaY g tc te (zal src sd) x) h fun o h'=>o=k x/\h'=h) (q:P (.lst (ds.filterMap k)) h):wp (zaI fi g tc te src sd) h P:=by
 unfold zaI
 rw [hi]
 simp only [pure_bind]
 rw [zay hl]
 simp only [pure_bind]
 rw [zah]
 refine zdw hf ?_
 rw [zak]
 exact q
theorem zoa {xs:List Int} {i:Int} (h:xs.Pairwise (· < ·)) (hi:i∉xs):(zba (xs++[i])).Pairwise (· < ·):=by
 have hn:(xs++[i]).Nodup:=by
  rw [List.nodup_append]
  refine ⟨h.imp fun z=>by omega,by simp,fun a ha b hb=> ?_⟩
  simp at hb
  subst hb
  exact fun z=>hi (z▸ha)
 have hn2:(zba (xs++[i])).Nodup:=(zat _).nodup_iff.mpr hn
 exact ((zcE (xs++[i])).and hn2).imp fun ⟨a,b⟩=>by omega
theorem zor {xs:List D} {z:D} (h:xs.getLast? = some z):atI xs (-1)=some z:=by
 obtain ⟨ys,e⟩:=List.getLast?_eq_some_iff.mp h
 subst e
 exact zlL ys z
end L3
namespace L2
open PySem PySem.Spec PyProof.Rows L3
theorem zbb.there {P:Program} {w:World} {H:Hp} {h:Heap} {a:Addr} {o:HO} (x:zbb P w H h a o): ∃ ob,h.get? a=some ob:=by
 cases o with
 | lst xs=>obtain ⟨_,_,_,_,e⟩:=x;exact ⟨_,e⟩
 | tup xs=>obtain ⟨_,_,_,ob,e,_⟩:=x;exact ⟨ob,e⟩
 | dK kvs=>obtain ⟨_,_,_,_,ob,_,_,e,_⟩:=x;exact ⟨ob,e⟩
 | dT kvs=>obtain ⟨_,_,_,_,ob,_,_,e,_⟩:=x;exact ⟨ob,e⟩
 | set S n=>obtain ⟨ob,_,_,_,e,_⟩:=x;exact ⟨ob,e⟩
 | ins C dx fs=>obtain ⟨_,_,_,e,_⟩:=x;exact ⟨_,e⟩
 | own y=>exact x
 | xd fs=>obtain ⟨_,⟨ob,_,_,e,_⟩,_⟩:=x;exact ⟨ob,e⟩
 | rng lo hi=>obtain ⟨_,_,_,e⟩:=x;exact ⟨_,e⟩
 | frz ob u=>exact ⟨ob,x.1⟩
 | tbl ps=>exact ⟨_,x⟩
 | met f y=>exact ⟨_,x⟩
 | ext φ=>exact x.2.1
structure HS (H H':Hp) (h:Heap):Prop where
 free: ∀ b o,h.get? b=some o->H b=none->H' b=none
 tups: ∀ b xs,H b=some (.tup xs)->H' b=some (.tup xs)
 frzs: ∀ b o u,H b=some (.frz o u)->H' b=some (.frz o u)
 tbls: ∀ b ps,H b=some (.tbl ps)-> ∃ more,H' b=some (.tbl (ps++more))
structure FlB (P:Program) (w:World) (l:List Env) (H:Hp) (h:Heap) (H':Hp) (B:Heap):Prop where
 old: ∀ b o,h.get? b=some o->b∉frs l-> ∃ o',B.get? b=some o'/\(H b=none->o'=o)
 trk: ∀ b u,H' b=some u-> ∃ o,B.get? b=some o
 ok:HOk P w H' B
structure Fl (P:Program) (w:World) (l:List Env) (H:Hp) (s:Shared) (a C:Addr) (fl:Value) (H':Hp) (s':Shared):Prop where
 os:s'.os=s.os
 bare:AllBare s'.gens
 base: ∃ B:Heap,Fly B l a (.ref C) fl s'.heap/\FlB P w l H s.heap H' B
 slot: ∀ b o,s.heap.get? b=some o->H b=none->b∈frs l-> ∃ sl,s'.heap.get? b=some {o with slots:=sl}
 hs:HS H H' s.heap
section
variable {P:Program} {w:World} {l:List Env} {H H':Hp} {s s':Shared} {a C:Addr} {fl:Value}
theorem Fl.un (y:Fl P w l H s a C fl H' s'):Un (frs l) [] H H' s.heap s'.heap:=by
 obtain ⟨B,y1,y2⟩:=y.base
 refine ⟨fun b o e n hb _=> ?_,fun b o e n hb _=>y.slot b o e n hb,fun b o e n _=>y.hs.free b o e n,fun b o e _=> ?_,y.hs.tups,y.hs.frzs,y.hs.tbls⟩
 ·obtain ⟨o',e',q⟩:=y2.old b o e hb
  rw [<- q n]
  exact y1.stays b o' e'
 ·by_cases hb:b∈frs l
  ·obtain ⟨_,o',e',_⟩:=y1.frames.mem hb
   exact ⟨o',e'⟩
  ·obtain ⟨o',e',_⟩:=y2.old b o e hb
   exact ⟨o',y1.stays b o' e'⟩
theorem Fl.hok (y:Fl P w l H s a C fl H' s'):HOk P w H' s'.heap:=by
 obtain ⟨B,y1,y2⟩:=y.base
 exact y2.ok.kept y1.stays
theorem Fl.exc (y:Fl P w l H s a C fl H' s'): ∃ head,zgN s'.heap a (.ref C) head:=by
 obtain ⟨B,y1,y2⟩:=y.base
 obtain ⟨hd,z,_⟩:=y1.exc
 exact ⟨hd,z⟩
theorem Fl.fresh (y:Fl P w l H s a C fl H' s'):s.heap.get? a=none/\H' a=none/\a∉frs l:=by
 obtain ⟨B,y1,y2⟩:=y.base
 have nf:a∉frs l:=fun z=>by
  obtain ⟨_,o,e,n⟩:=y1.frames.mem z
  obtain ⟨_,⟨ob,vs,e2,_,_,d,_⟩,_⟩:=y1.exc
  rw [e] at e2
  cases e2
  exact n vs d
 refine ⟨?_,?_,nf⟩
 ·cases q:s.heap.get? a with
  | none=>rfl
  | some o=>
   obtain ⟨o',e,_⟩:=y2.old a o q nf
   rw [y1.new] at e
   cases e
 ·cases q:H' a with
  | none=>rfl
  | some u=>
   obtain ⟨o',e⟩:=y2.trk a u q
   rw [y1.new] at e
   cases e
theorem Fl.mv {B h':Heap} {fl':Value} (os:s'.os=s.os) (bare:AllBare s'.gens) (slot: ∀ b o,s.heap.get? b=some o->H b=none->b∈frs l-> ∃ sl,s'.heap.get? b=some {o with slots:=sl}) (hs:HS H H' s.heap)
  (fr:s'.heap.FunFrames B l) (z:Fly B l a (.ref C) fl' h') (y:FlB P w l H s.heap H' B) (u:s'.heap.UpToSlots h'):Fl P w l H s a C fl' H' {s' with heap:=h'}:=by
 refine ⟨os,bare,⟨B,z,y⟩,fun b o e n hb=> ?_,hs⟩
 obtain ⟨sl,e2⟩:=slot b o e n hb
 obtain ⟨_,o2,e3,n3⟩:=fr.mem hb
 rw [e2] at e3
 cases e3
 obtain ⟨sl',e4⟩:=u b _ e2 n3
 exact ⟨sl',e4⟩
section
variable {M:Model} {A:Around} {E:Value->Shared->Prop} {env:Env} {outer:List Env} {L:Addr} {Q:Unit->Shared->Prop}
theorem Fl.note (y:Fl P w (env::outer) H s a C .none H' s') (hfr:A.frames=some (env::outer)) (hf:env.frame=some L) (k: ∀ h',Fl P w (env::outer) H s a C (rawInt L) H' {s' with heap:=h'}->Q () {s' with heap:=h'}):
  wpAny M A (noteFrame (.ref a) env) Q E s':=by
 obtain ⟨B,y1,y2⟩:=y.base
 exact znV hfr hf y1 fun h' z u=>k h' (Fl.mv y.os y.bare y.slot y.hs y1.frames z y2 u)
theorem Fl.off (y:Fl P w l H s a C fl H' s') (k: ∀ h',Fl P w l H s a C .none H' {s' with heap:=h'}->Q () {s' with heap:=h'}):wpAny M A (setFlight (.ref a) none) Q E s':=by
 obtain ⟨B,y1,y2⟩:=y.base
 exact zeZ y1 fun h' z u=>k h' (Fl.mv y.os y.bare y.slot y.hs y1.frames z y2 fun b o e n=>⟨o.slots,u b o e n⟩)
end
end
structure zeP (X:Cx):Prop where
 stk:X.stack=X.env::X.outer
 frm:X.env.frame=some X.env.locals
 ex:X.ex=[]
theorem zeP.frs {X:Cx} (z:zeP X):frs X.stack=X.env.locals::frs X.outer:=by
 rw [z.stk]
 unfold L2.frs
 rw [qat,z.frm]
section
variable {X:Cx} {pins:List (Addr×Obj)} {σ:St} {H H':Hp} {s s':Shared} {a C:Addr} {M:Model} {E:Value->Shared->Prop} {Q:Unit->Shared->Prop}
theorem Inv.below (I:Inv X pins σ H s) {b:Addr} {o:Obj} (e:X.s₀.heap.get? b=some o):b≠X.env.locals:=qaR (qaw (qaQ e) I.ok.above)
theorem Fl.made {h':Heap} {vs:List Value} (z:zeP X) (I:Inv X pins σ H s) (m:Heap.MadeExcOf s.heap h' a (.ref C) vs) (k: ∀ s2,Fl X.prog X.w X.outer X.H₀ X.s₀ a C .none H s2->Q () s2):wpAny M X.A (leaving X.env (.ref a)) Q E {s with heap:=h'}:=by
 have nex: ∀ b,b∉X.ex:=fun b h=>by rw [z.ex] at h;cases h
 have hfr:=I.ok.frames
 have hl:=I.stack
 have hin: ∀ env∈X.stack, ∀ b,env.frame=some b->b∈frs X.stack:=fun env he b hb=>List.mem_filterMap.mpr ⟨env,he,hb⟩
 have hl2:=W.funFrames_hide hl hin
 have hl3:h'.FunFrames (W.hideAll s.heap (frs X.stack)) X.stack:=hl2.of_keeps fun b o e _=>⟨o,m.keeps b o e,rfl⟩
 have inB: ∀ {b:Addr} {o:Obj},s.heap.get? b=some o->b∉frs X.stack->(W.hideAll s.heap (frs X.stack)).get? b=some o:=fun e n=>W.hideAll_get _ e n
 have ofB: ∀ {b:Addr} {o:Obj},(W.hideAll s.heap (frs X.stack)).get? b=some o->s.heap.get? b=some o:=fun e=>W.of_hideAll _ e
 have trk: ∀ b u,H b=some u->b∉frs X.stack:=fun b u e hm=>by rw [I.stkFree b hm] at e;cases e
 have newB:(W.hideAll s.heap (frs X.stack)).get? a=none:=by
  cases q:(W.hideAll s.heap (frs X.stack)).get? a with
  | none=>rfl
  | some o=>have:=ofB q;rw [m.new] at this;cases this
 have hst:=z.stk
 refine zhi (B:=W.hideAll s.heap (frs X.stack)) (by rw [<- hst];exact hfr) (by rw [<- hst];exact hl3) z.frm (zlU m) (fun b o e=>m.keeps b o (ofB e)) newB fun h2 q u=>k _ ?_
 have nin: ∀ b o,X.s₀.heap.get? b=some o->b∉frs X.outer->b∉frs X.stack:=fun b o e hb hm=>by
  rw [z.frs] at hm
  rcases qaP.mp hm with r | r
  ·exact I.below e r
  ·exact hb r
 refine ⟨I.os,I.bare,⟨_,q,fun b o e hb=> ?_,fun b v e=> ?_,fun b v e=> ?_⟩,fun b o e n hb=> ?_,fun b o e n=>I.base.free b o e n (nex b),I.base.tups,I.base.frzs,I.base.tbls⟩
 ·obtain ⟨o1,e1⟩:=I.base.there b o e (nex b)
  refine ⟨o1,inB e1 (nin b o e hb),fun n=> ?_⟩
  have e3:=I.base.keep b o e n hb (nex b)
  rw [e1] at e3
  cases e3
  rfl
 ·obtain ⟨o,e1⟩:=(I.hok b v e).there
  exact ⟨o,inB e1 (trk b v e)⟩
 ·refine (I.hok b v e).stay (fun c o hc e1=>inB e1 ?_) (fun _ r=>r) fun _ _ r=>r
  rcases hc with rfl | hc
  ·exact trk _ v e
  ·exact trk _ _ hc
 ·obtain ⟨sl,e1⟩:=I.base.slot b o e n hb (nex b)
  have hb2:b∈frs X.stack:=by rw [z.frs];exact qan _ hb
  obtain ⟨_,o3,e3,n3⟩:=hl.mem hb2
  rw [e1] at e3
  cases e3
  obtain ⟨sl4,e4⟩:=u b _ (m.keeps b _ e1) n3
  exact ⟨sl4,e4⟩
end
noncomputable def CXE (P:Program) (w:World):CXT:=fun outer H s E e s'=> ∃ a C H',e= .ref a/\Fl P w outer H s a C .none H' s'/\E e (some C) H'
end L2
namespace L3
open PySem PySem.Spec PyProof.Rows L2
def zbt (K:W.Frag) (c:String) (C:Addr):Prop:=W.nsIn K mainGlobals (c:Str)=some (some (.ref C))
noncomputable def zo2 (K:W.Frag) (E:XE):XK:=fun _ oc H'=> ∃ c C,oc=some C/\zbt K c C/\E c H'
noncomputable def zrC (K:W.Frag) (E:XK):XE:=fun c H'=> ∀ C v,zbt K c C->E v (some C) H'
def zng (X:Cx) (E:XE):Prop:= ∀ (pins:List (Addr×Obj)) (σ:St) (H:Hp) (s:Shared) (h':Heap) (a C:Addr) (c:String) (vs:List Value),Inv X pins σ H s->zbt X.K c C->Heap.MadeExcOf s.heap h' a (.ref C) vs->E c H->X.xe (.ref a) {s with heap:=h'}
section
variable {P:Program} {w:World} {K:W.Frag} {mg:Str->Option Value} {base:Heap} {N:List Str} {qual:Str} {scope:Scope} {f:Addr} {cd:Value} {A:Around} {outer:List Env} {s:Shared} {H:Hp} {E:XK}
theorem zpO:zeP (zg7 (CXE P w) P w K mg base N qual scope f cd A outer s H E):=⟨rfl,rfl,rfl⟩
theorem zlH:zng (zg7 (CXE P w) P w K mg base N qual scope f cd A outer s H E) (zrC K E):=by
 intro pins σ H1 s1 h' a C c vs I hc m he
 exact Fl.made zpO I m fun s3 y3=>⟨a,C,H1,rfl,y3,he _ _ hc⟩
end
noncomputable def noX {α:Type} (m:M α):M α:=fun h=>match m h with
 | .exc _ _=> .bad
 | r=>r
theorem Fin.noX {α:Type} {K:W.Frag} {E E':XE} {ι:Io} {H:Hp} {m:M α} {h:Hh} {P:α->Io->Hp->Prop} (q:Fin K E ι H (L3.noX m h) P):Fin K E' ι H (m h) P:=by
 unfold L3.noX at q
 cases e:m h with
 | ok a h'=>rw [e] at q;exact q
 | exc c h'=>rw [e] at q;exact qa0 q
 | bad=>rw [e] at q;exact q
noncomputable def spE (K:W.Frag) (n:Nat) (F:List D->M D):Sp:=fun vs H Q E=>vs.length=n/\ ∃ ι h ds,zam K ι H ds vs/\zaQ K ι H h/\Fin K (zrC K E) ι H (F ds h) fun d ι' H'=> ∀ v,Rel K ι' H' d v->Q v H'
section
variable {P:Program} {w:World} {K:W.Frag} {mg:Str->Option Value} {base:Heap}
theorem zqc {x qual:Str} {st:Stmt} {f:Addr} {fd:FuncData} {N ps:List Str} {k:Nat} {G:Sd->M Out} (F:Fun K x qual st f fd) (S:zau N ps (zae st))
  (hb: ∀ (cdv:Value) (A:Around) (outer:List Env) (s:Shared) (H:Hp) (E:XK),zcO k (A.deeper (envOfC qual (zae st) s.heap.objs.size f cdv))->SSs (zg7 (CXE P w) P w K mg base N qual (zae st) f cdv A outer s H E) (zrC K E) (zbS st) G):
  zbw P w K mg base (CXE P w) (k+1) f fd ps (spE K ps.length (zds N.length G)):=by
 obtain ⟨oc,od,kV,doc,pm,an,cdv,ct,osl,rfl,lk,hcd⟩:=F.ex
 refine zoK lk hcd S (fun vs H Q E h=>h.1) fun A outer s H vs Q E hr ⟨hl,ι,h,ds,rl,hh,q⟩=>⟨_,hb cdv A outer s H E hr,ι,h,zfb N.length ds,zdB rl,hh,?_⟩
 refine Fin.bind q fun o h1 ι1 H1 e1 s1 hr1 q1=> ?_
 cases o with
 | nx sd=>exact fun σ' _=>Fin.out hr1 q1 _ (by simp [Rel])
 | rt d=>exact fun v rv=>Fin.out hr1 q1 v rv
 | bk sd=>exact qa0 q1
 | ct sd=>exact qa0 q1
end
section
variable {X:Cx} {E:XE} {e:Expr} {es:List Expr} {pos p:Pos}
theorem Fin.exmono {α:Type} {K:W.Frag} {E E':XE} {ι:Io} {H:Hp} {r:R α} {P:α->Io->Hp->Prop} (m: ∀ c H',E c H'->E' c H') (q:Fin K E ι H r P):Fin K E' ι H r P:=by
 cases r with
 | ok a h'=>exact q
 | exc c h'=>exact fun ι2 H2 t hr=>m _ _ (q ι2 H2 t hr)
 | bad=>exact q
theorem zla {k:Nat} {f:Addr} {fd:FuncData} {ps:List Str} {n:Nat} {F:List D->M D} {fs:Sd->M (List D)} {x:Str} (G:zbw X.prog X.w X.K X.mg X.base (CXE X.prog X.w) k f fd ps (spE X.K n F)) (hx:zdQ (CXE X.prog X.w) X (zo2 X.K E)) (hr:zcO k X.A) (hg:Gl X x) (hm:X.mg x=some (.ref f)) (hk:W.keepIn X.K (.ref f)=true) (hb:zaN X.K fd ps [])
  (ha:SA X E (e::es) fs) (hdb:(x==("__debug__":Str))=false:=by decide) (he:starEach (e::es) X.env=(false,eval e X.env)::starEach es X.env:=by rfl) (hpl:(backTo pos (starEach es X.env)).any (·.1)=false:=by rfl):
  SE X E (.Call (.Name x p) (e::es) [] pos) (zaz (zaq n F) fs):=by
 refine PE.imp (zg9 G hr hg hm hk hb (dvs:=[]) .nil hx ha hdb he hpl) fun σ H Q ⟨ι,h,sd,L,hh,q⟩=>⟨ι,h,sd,L,hh,Fin.bind q fun ds h1 ι1 H1 e1 s1 hr1 q1 vs rv=> ?_⟩
 show spE X.K n F (vs++[]) H1 Q _
 rw [List.append_nil]
 unfold zaq at q1
 by_cases hl:ds.length=n
 ·rw [qa4 hl] at q1
  exact ⟨by rw [<- rv.length];exact hl,ι1,h1,ds,rv,hr1,Fin.exmono (fun c H' z C v hc=>⟨c,C,rfl,hc,z⟩) q1⟩
 ·rw [qa5 hl] at q1
  exact qa0 q1
theorem zlh {k:Nat} {f:Addr} {fd:FuncData} {ps:List Str} {n:Nat} {F:List D->M D} {fs:Sd->M (List D)} {x:Str} (G:zbw X.prog X.w X.K X.mg X.base CX0 k f fd ps (zb6 X.K n F)) (hr:zcO k X.A) (hg:Gl X x) (hm:X.mg x=some (.ref f)) (hk:W.keepIn X.K (.ref f)=true) (hb:zaN X.K fd ps [])
  (ha:SA X E (e::es) fs) (hdb:(x==("__debug__":Str))=false:=by decide) (he:starEach (e::es) X.env=(false,eval e X.env)::starEach es X.env:=by rfl) (hpl:(backTo pos (starEach es X.env)).any (·.1)=false:=by rfl):
  SE X E (.Call (.Name x p) (e::es) [] pos) (zaz (zaq n fun ds=>noX (F ds)) fs):=by
 refine PE.imp (zg9 G hr hg hm hk hb (dvs:=[]) .nil (E:=fun _ _ _=>False) zqk ha hdb he hpl) fun σ H Q ⟨ι,h,sd,L,hh,q⟩=>⟨ι,h,sd,L,hh,Fin.bind q fun ds h1 ι1 H1 e1 s1 hr1 q1 vs rv=> ?_⟩
 show zb6 X.K n F (vs++[]) H1 Q _
 rw [List.append_nil]
 unfold zaq at q1
 by_cases hl:ds.length=n
 ·rw [qa4 hl] at q1
  exact ⟨by rw [<- rv.length];exact hl,ι1,h1,ds,rv,hr1,Fin.noX q1⟩
 ·rw [qa5 hl] at q1
  exact qa0 q1
end
end L3
namespace L2
open PySem PySem.Spec PyProof.Rows L3
structure zcz (k:Nat) (A:Around):Prop where
 dp:A.depth+3*k+5<recursionLimit
 un:A.units+16*k+200<cLine
theorem zcz.of {k:Nat} {A:Around} (r:zcO k A):zcz k A:=⟨r.dp,r.un⟩
theorem zcz.deeper {k:Nat} {A:Around} (r:zcz (k+1) A) (env:Env):zcz k (A.deeper env):=
 ⟨by have:=r.dp;show A.depth+1+3*k+5<_;omega,by have:=r.un;show A.units+3+16*k+200<_;omega⟩
theorem zcz.mono {j k:Nat} {A:Around} (r:zcz k A) (h:j<=k):zcz j A:=⟨by have:=r.dp;omega,by have:=r.un;omega⟩
structure FnH (P:Program) (w:World) (K:W.Frag) (mg:Str->Option Value) (base:Heap) (k:Nat) (f:Addr) (fd:FuncData) (ps:List Str) (sp:Sp):Prop where
 len: ∀ vs H Q E,sp vs H Q E->vs.length=ps.length
 run: ∀ (A:Around) (outer:List Env) (s:Shared) (H:Hp) (args:Args) (us:List Value) (vs:List V) (Q:VK),zcz k A->zld P w K mg base A outer s H->BindsTo s fd args (ps.zip us)->zaM vs us->sp vs H Q E0->
  codeAny (model P w) A (.call (.ref f) args) (CR CX0 outer P w H s Q E0) s
theorem zpd {P:Program} {w:World} {K:W.Frag} {mg:Str->Option Value} {base:Heap} {k:Nat} {f:Addr} {name qual:Str} {params:Arguments} {body:List Stmt} {scope:Scope} {dV kV doc pm cdv ct oc:Value} {an od:Option Addr}
  {osl:Array (Option Value)} {N ps:List Str} {sp:Sp} (lk:K.lookup f=some ⟨oc,od,.func (W.fnOf name qual params body scope dV kV doc pm an cdv ct),osl⟩) (hcd:W.codeIn K cdv qual=true) (S:zau N ps scope)
  (len: ∀ vs H Q E,sp vs H Q E->vs.length=ps.length)
  (hbody: ∀ (A:Around) (outer:List Env) (s:Shared) (H:Hp) (vs:List V) (Q:VK),zcz k (A.deeper (envOfC qual scope s.heap.objs.size f cdv))->sp vs H Q E0->
    ∃ t,PSs ({zg7 CX0 P w K mg base N qual scope f cdv A outer s H E0 with calm:=false}:Cx).nox body t/\t {nx:=fun _ H'=>Q .non H',rt:=Q} (zdx N vs) H):
  FnH P w K mg base (k+1) f (W.fnOf name qual params body scope dV kV doc pm an cdv ct) ps sp:=by
 refine ⟨len,fun A outer s H args us vs Q hr e0 hb r hsp=> ?_⟩
 have hl:=len _ _ _ _ hsp
 have KX:K.In s.heap:=e0.mod.kin.keeps fun b o e=>(e0.bs b o e).1
 have lim:s.heap.NoLimit:=e0.mod.nolimit.keeps fun b o e=>(e0.bs b o e).1
 have hkind: ∀ y∈ps.zip us,scope.names.lookup y.1=some .local\/(scope.names.lookup y.1=some .cell/\((cellsFrom (s.heap.objs.size+1) scope.names []).lookup y.1).isSome=true):=fun ⟨n,v⟩ hy=>by
  rcases S.par n (List.of_mem_zip hy).1 with q | q
  ·exact .inl q
  ·exact .inr ⟨q,W.cellsFrom_some _ _ _ (.inl q)⟩
 refine codeAny_call_function (by have:=hr.dp;omega) (KX _ _ lk) rfl S.co S.gen rfl (W.codeRec_of KX hcd) (hb _ _ _ _ ?_)
 refine wpAny_newFunctionEnv_cells S.kind hkind fun env he s1 x=> ?_
 subst he
 refine ⟨lim.keeps x.toInCall.keep,codeAny_func ?_⟩
 obtain ⟨t,ht,hq⟩:=hbody A outer s H vs Q (hr.deeper _) hsp
 have I:Inv {zg7 CX0 P w K mg base N qual scope f cdv A outer s H E0 with calm:=false} [] (zdx N vs) H s1:=zgo (cm:=false) S (fun z=>by cases z) e0 hl r x
 refine qaZ (ht.nox [] s1 (zdx N vs) H _ I hq) (fun fl s' hs=> ?_) fun e s' hs=>hs
 have fin: ∀ {σ':St} {H':Hp} {v:V} {u:Value},Inv {zg7 CX0 P w K mg base N qual scope f cdv A outer s H E0 with calm:=false} [] σ' H' s'->zbk v u->Q v H'->CE outer P w H s Q u s':=
  fun {σ' H' v u} J rv q=>⟨v,H',J.os,J.bare,J.base,J.hok,rv,q⟩
 cases fl with
 | ret u=>
  obtain ⟨v,σ',H',J,rv,q⟩:=hs
  exact fin J rv q
 | next=>
  obtain ⟨σ',H',J,q⟩:=hs
  exact fin (v:=V.non) (u:=Value.none) J rfl q
 | brk=>
  obtain ⟨_,_,_,q⟩:=hs
  exact qa0 q
 | cont=>
  obtain ⟨_,_,_,q⟩:=hs
  exact qa0 q
section
variable {X:Cx} {pins:List (Addr×Obj)} {σ:St} {H H':Hp} {s s':Shared} {a:Addr} {o:Obj}
theorem Inv.track (I:Inv X pins σ H s) (hH:H a=none) (ho:s.heap.get? a=some o) (h0:X.s₀.heap.get? a=none) (hL:a≠X.env.locals) (hc: ∀ x c,X.env.cells.lookup x=some c->c≠a) (hp: ∀ p∈X.pn++pins,p.1≠a):
  Inv X pins σ (upd H a (.frz o (.own 0))) s:=by
 have un: ∀ {b:Addr} {u:HO},H b=some u->upd H a (.frz o (.own 0)) b=some u:=fun e=>by rw [zas (zaH e hH)];exact e
 refine ⟨I.ok,I.os,I.bare,⟨I.base.keep,I.base.slot,fun b ob e n hx=> ?_,I.base.there,fun b xs e=>un (I.base.tups b xs e),fun b ob u e=>un (I.base.frzs b ob u e),fun b ps e=> ?_⟩,I.loc,I.cell,?_,fun x c e=> ?_,fun p q=> ?_,fun b u e=> ?_,I.len⟩
 ·rw [zas (fun z=>by subst z;rw [h0] at e;cases e)]
  exact I.base.free b ob e n hx
 ·obtain ⟨m,e1⟩:=I.base.tbls b ps e
  exact ⟨m,un e1⟩
 ·rw [zas (Ne.symm hL)]
  exact I.free
 ·rw [zas (hc x c e)]
  exact I.freeC x c e
 ·obtain ⟨e1,e2,e3⟩:=I.pin p q
  exact ⟨e1,by rw [zas (hp p q)];exact e2,e3⟩
 ·by_cases hb:b=a
  ·subst hb
   rw [zax] at e
   cases e
   exact ⟨ho,o,ho⟩
  ·rw [zas hb] at e
   exact (I.hok b u e).stay (fun _ _ _ z=>z) (fun c z=>un z) fun c xs z=>un z
theorem znt {M:Model} {A:Around} {E:Value->Shared->Prop} {i:Nat} {x:Str} {pos:Pos} {Q:Unit->Shared->Prop} (I:Inv X pins σ H s) (hN:X.N.Nodup) (hi:X.N[i]? = some x) (hk:X.env.scope.names.lookup x=some .local)
  (h: ∀ s',Inv X pins (σ.set i none) H s'->Q () s'):wpAny M A (do bindName X.env x .none;unbindBehindTheSuite X.env x pos) Q E s:=by
 obtain ⟨m,hn,hl⟩:=id I.loc
 have hcls:(X.env.scope.kind== .class || (X.env.scope.kind== .module && X.env.locals != X.env.globals))=false:=by rw [I.ok.kind];rfl
 have hiσ:i<σ.length:=by rw [I.len];exact (qac.mp hi).1
 have cne:=I.cne
 refine wpAny_nameGoes_keeps hk hn hcls fun h' v hn' hs=> ?_
 obtain ⟨oL,_,_,hoL,_⟩:=id hn
 refine h _ ⟨I.ok,I.os,I.bare,⟨fun b ob e n hb hx=> ?_,fun b ob e n hb hx=> ?_,I.base.free,fun b ob e hx=> ?_,I.base.tups,I.base.frzs,I.base.tbls⟩,⟨_,hn',fun j y v' e1 e2 e3=> ?_⟩,fun y c e=> ?_,I.free,I.freeC,fun p hp=> ?_,fun b ob e=> ?_,by simpa using I.len⟩
 ·exact (hs.2 b (I.below e)).trans (I.base.keep b ob e n hb hx)
 ·obtain ⟨sl,e1⟩:=I.base.slot b ob e n hb hx
  exact ⟨sl,(hs.2 b (I.below e)).trans e1⟩
 ·obtain ⟨o',e1⟩:=I.base.there b ob e hx
  exact ⟨o',(hs.2 b (I.below e)).trans e1⟩
 ·by_cases hj:j=i
  ·subst hj
   rw [qai hiσ] at e2
   cases e2
  ·rw [qao (Ne.symm hj)] at e2
   obtain ⟨u',r',q⟩:=hl j y v' e1 e2 e3
   refine ⟨u',r',?_⟩
   rcases q with ⟨k,e⟩ | ⟨k,c,e,z⟩
   ·refine .inl ⟨k,?_⟩
    have:y≠x:=fun e=>hj (zfB hN e1 (e▸hi))
    simp [this,e]
   ·exact .inr ⟨k,c,e,z.sameBut hs (cne y c e)⟩
 ·obtain ⟨w',z⟩:=I.cell y c e
  exact ⟨w',z.sameBut hs (cne y c e)⟩
 ·obtain ⟨e,n,ne,nf,d⟩:=I.pin p hp
  exact ⟨(hs.2 p.1 ne).trans e,n,ne,nf,d⟩
 ·refine (I.hok b ob e).stay (fun c w' hc q=>(hs.2 c ?_).trans q) (fun _ q=>q) fun _ _ q=>q
  rintro rfl
  rcases hc with rfl | hc
  ·rw [I.free] at e;cases e
  ·rw [I.free] at hc;cases hc
end
section
variable {X:Cx} {pins:List (Addr×Obj)} {σ:St} {H H':Hp} {s s':Shared} {a C CE:Addr} {ce en:Str} {pce pos:Pos} {b₀:Stmt} {suite:List Stmt} {j:Nat} {Q:Flow->Shared->Prop} {E:Value->Shared->Prop}
theorem Fl.caught (z:zeP X) (I:Inv X pins σ H s) (y:Fl X.prog X.w X.stack H s a C .none H' s') (hN:X.N.Nodup) (hj:X.N[j]? = some en) (hen:X.env.scope.names.lookup en=some .local) (hg:Gl X ce) (hm:X.mg ce=some (.ref CE)) (hx:W.exmOne X.K (.ref C) (.ref CE)=some true)
  (k: ∀ s6,Inv X pins (σ.set j (some (.ref a))) H' s6->(∃ head,zgN s6.heap a (.ref C) head)->wpAny (model X.prog X.w) (X.A.mark (some (.ref a))) (execs (b₀::suite) X.env)
    (fun f s4=>wpAny (model X.prog X.w) X.A (do bindName X.env en .none;unbindBehindTheSuite X.env en pos) (fun _ s5=>Q f s5) E s4) (fun _ _=>False) s6) (hd:(ce==("__debug__":Str))=false:=by decide):
  wpAny (model X.prog X.w) X.A (noteFrame (.ref a) X.env) (fun _ s2=>wpAny (model X.prog X.w) X.A (setFlight (.ref a) none) (fun _ s3=>
    wpAny (model X.prog X.w) X.A (handleBy (.ref a) X.env [.ExceptHandler (some (.Name ce pce)) (some en) (b₀::suite) pos]) Q E s3) E s2) E s':=by
 have hfr:=I.ok.frames
 rw [z.stk] at hfr y
 refine y.note hfr z.frm fun h3 y3=> ?_
 refine y3.off fun h4 y4=> ?_
 have ev: ∀ {hp fl},Fl X.prog X.w (X.env::X.outer) H s a C fl H' {s' with heap:=hp}->Inv X pins σ H' {s' with heap:=hp}:=fun {hp fl} y=>by
  have u:=y.un
  rw [<- z.stk] at u
  exact I.call' y.os u y.hok y.bare fun b q=>absurd q (by simp)
 have I4:=ev y4
 obtain ⟨hd4,x4⟩:=y4.exc
 have LT:W.Looks (model X.prog X.w) h4 (typeOf (.ref a)) (.ref C):=by
  obtain ⟨ob,vs,e1,e2,_⟩:=x4
  exact e2▸(W.Looks.ld e1).andThen .now
 refine wpAny_handleBy_cons (codeAny_handlers_test ?_) (by intro q;cases q)
 refine Calls.Name_function_global I4.ok.kind hg (Calls.loadGlobal_global (by rw [I4.ok.glob];exact I4.mod.glob.keeps I4.bk) hm ?_) hd
 refine (W.exm_one I4.kIn LT hx).here ?_
 refine codeAny_handlers_suite_as ?_
 refine y4.off fun h5 y5=> ?_
 have I5:=ev y5
 obtain ⟨hd5,x5⟩:=y5.exc
 have na:a≠X.env.locals/\ ∀ x c,X.env.cells.lookup x=some c->c≠a:=by
  obtain ⟨f1,f2,f3⟩:=y.fresh
  refine ⟨fun q=> ?_,fun x c e q=> ?_⟩
  ·obtain ⟨m,⟨oL,_,_,hoL,_⟩,_⟩:=I.loc
   rw [<- q,f1] at hoL
   cases hoL
  ·obtain ⟨v,oc,hoc,_⟩:=I.cell x c e
   rw [q,f1] at hoc
   cases hoc
 refine zgs I5 hN hj (.inl hen) (v:= .ref a) rfl (fun s6 I6 ⟨b,sb,hb⟩=> ?_) (.inr hen)
 refine qaZ (k s6 I6 ⟨hd5,x5.keep fun ob e=>(sb.2 a fun q=> ?_).trans e⟩) (fun _ _ q=>q) fun _ _ q=>q.elim
 rcases hb with hb | hb
 ·exact na.1 (q.trans hb)
 ·exact na.2 en b hb q.symm
end
noncomputable abbrev ziO:List Value:=[.type "ValueError",.type "Exception",.type "BaseException",.type "object"]
theorem znu {K:W.Frag} {h:Heap} {mg:Str->Option Value} {x:Str} {C:Addr} {bm:List Value} {nid:String} (X:K.In h) (hm:mg x=some (.ref C)) (q:W.excIn K C bm nid=true):OwnCls x C bm nid mg h:=by
 refine ⟨hm,?_⟩
 unfold W.excIn at q
 split at q
 ·rename_i dd cdt sl lk
  split at q
  ·rename_i C2 tl y0 y1 y2 y3 nn y5 hmro hsl
   simp only [qaG,beq_iff_eq,Bool.not_eq_true'] at q
   obtain ⟨⟨⟨⟨⟨rfl,rfl⟩,q3⟩,q4⟩,q5⟩,q6⟩:=q
   obtain ⟨z1,z2,z3,z4,z5,z6,z7,z8,z9,z10,z11⟩:=cdt
   dsimp only at hmro q3 q5 q6
   subst hmro q3
   obtain rfl:sl= #[y0,y1,y2,y3,some (.builtin nn),y5]:=by
    obtain ⟨ll⟩:=sl
    dsimp only at hsl
    rw [hsl]
   exact ⟨tl,z4,z1,z5,z2,z6,z7,z8,z9,z10,dd,y0,y1,y2,y3,y5,_,X _ _ lk,.of_isNs (W.isNs_of_in X q5),W.nsMap_none_of_in X q5 q6,W.tail_of_in X q4⟩
  ·cases q
 ·cases q
noncomputable def Cx.re (X:Cx) (pn:List (Addr×Obj)) (xe:Value->Shared->Prop):Cx:={X with pn:=pn,xe:=xe}
section
variable {X:Cx} {pins pins':List (Addr×Obj)} {σ:St} {H H':Hp} {s s':Shared} {xe:Value->Shared->Prop}
theorem Inv.re (I:Inv X pins σ H s) (xe:Value->Shared->Prop):Inv (X.re (X.pn++pins) xe) [] σ H s:=
 ⟨⟨I.ok.mod,I.ok.kind,I.ok.glob,I.ok.blt,I.ok.above,I.ok.inj,I.ok.has,I.ok.cab,I.ok.hd,I.ok.hx,I.ok.frames,I.ok.stk,I.ok.exf,I.ok.bs,I.ok.bsz,I.ok.noex,I.ok.exfs,I.ok.funs,I.ok.frf⟩,I.os,I.bare,I.base,I.loc,I.cell,I.free,I.freeC,fun p hp=>I.pin p (by simpa [Cx.re] using hp),I.hok,I.len⟩
theorem Inv.unre (I:Inv (X.re (X.pn++pins) xe) pins' σ H s):Inv X pins σ H s:=
 ⟨⟨I.ok.mod,I.ok.kind,I.ok.glob,I.ok.blt,I.ok.above,I.ok.inj,I.ok.has,I.ok.cab,I.ok.hd,I.ok.hx,I.ok.frames,I.ok.stk,I.ok.exf,I.ok.bs,I.ok.bsz,I.ok.noex,I.ok.exfs,I.ok.funs,I.ok.frf⟩,I.os,I.bare,I.base,I.loc,I.cell,I.free,I.freeC,fun p hp=>I.pin p (List.mem_append_left _ hp),I.hok,I.len⟩
theorem SP.unre {D:zmC} {f:Flow} (h:SP (X.re (X.pn++pins) xe) pins' D f s'):SP X pins D f s':=by
 cases f with
 | next=>obtain ⟨σ',H',I,q⟩:=h;exact ⟨σ',H',I.unre,q⟩
 | brk=>obtain ⟨σ',H',I,q⟩:=h;exact ⟨σ',H',I.unre,q⟩
 | cont=>obtain ⟨σ',H',I,q⟩:=h;exact ⟨σ',H',I.unre,q⟩
 | ret u=>obtain ⟨v,σ',H',I,r,q⟩:=h;exact ⟨v,σ',H',I.unre,r,q⟩
end
end L2
namespace L3
open PySem PySem.Spec PyProof.Rows L2
section
variable {X:Cx} {pins:List (Addr×Obj)} {σ:L2.St} {H:Hp} {s:Shared} {a C:Addr} {o:Obj} {vs:Array Value} {head:Value} {c:String} {gk en pe:Str} {p1 p2 p3:Pos} {j k:Nat} {fk:Addr} {fdk:FuncData} {Fk:List D->M D} {Qv:VK} {ι:Io} {h:Hh}
theorem ziS (I:Inv X pins σ H s) (hH:H a=none) (ho:s.heap.get? a=some o) (ob:o.cls= .ref C/\o.dict=none/\o.data= .fields vs/\vs[2]? = some .none/\vs[1]? = some head)
  (h0:X.s₀.heap.get? a=none) (hL:a≠X.env.locals) (hcl: ∀ x c,X.env.cells.lookup x=some c->c≠a) (hp: ∀ p∈X.pn++pins,p.1≠a) (hj:X.N[j]? = some en) (hσ:σ[j]? = some (some (.ref a))) (hen:X.env.scope.names.lookup en=some .local)
  (FH:FnH X.prog X.w X.K X.mg X.base k fk fdk [pe] (zb6 X.K 1 Fk)) (hb:zaN X.K fdk [pe] []) (hg:Gl X gk) (hm:X.mg gk=some (.ref fk)) (kp:W.keepIn X.K (.ref fk)=true) (hr:zcz k X.A) (hc:zbt X.K c C) (hh:zaQ X.K ι H h)
  (q:Fin X.K E0x ι (upd H a (.frz o (.own 0))) (Fk [.exn c] h) fun d ι' H'=> ∀ v,Rel X.K ι' H' d v->Qv v H') (hd:(gk==("__debug__":Str))=false:=by decide) (hd2:(en==("__debug__":Str))=false:=by decide):
  wpAny (model X.prog X.w) (X.A.mark (some (.ref a))) (eval (.Call (.Name gk p1) [.Name en p2] [] p3) X.env) (fun u s8=> ∃ v H8,Inv X pins σ H8 s8/\zbk v u/\Qv v H8) (fun _ _=>False) s:=by
 have It:=I.track hH ho h0 hL hcl hp
 have E0':=It.env0
 refine wpAny_Call_Name_kw (Calls.Name_function_global I.ok.kind hg (Calls.loadGlobal_global (by rw [I.ok.glob];exact I.mod.glob.keeps I.bk) hm ?_) hd)
 refine W.callWith_K (h₀:=X.base) I.ok.mod.kin kp ?_
 refine Calls.spliced_cons ?_
 obtain ⟨m,hn,hl⟩:=It.loc
 obtain ⟨u,r,l⟩:=hl j en (.ref a) hj hσ (.inl hen)
 obtain rfl:u=Value.ref a:=r
 have hme:m en=some (.ref a):=by
  rcases l with ⟨_,e⟩ | ⟨e,_⟩
  ·exact e
  ·exfalso
   have e':X.env.scope.names.lookup en=some .cell\/X.env.scope.names.lookup en=some .free:=e
   rw [hen] at e'
   rcases e' with e' | e'<;>cases e'
 refine wpAny_Name (wpAny_loadName_local I.ok.kind hen hn hme ?_) hd2
 refine Calls.spliced_nil ⟨It.kIn,?_⟩
 have e0:zld X.prog X.w X.K X.mg X.base (X.A.mark (some (.ref a))) X.stack s (upd H a (.frz o (.own 0))):=
  ⟨It.ok.frames,E0'.mod,E0'.bs,E0'.bsz,E0'.funs,E0'.frf,E0'.hok,E0'.bare,.inr ⟨a,o,.ref C,head,vs,rfl,zax,ob⟩⟩
 have sp:zb6 X.K 1 Fk [.ref a] (upd H a (.frz o (.own 0))) Qv E0:=
  ⟨rfl,ι,h,[.exn c],zam.cons (by simp only [Rel];exact ⟨a,o,C,head,vs,rfl,⟨zax,hh.nin hH⟩,hc,ob⟩) zam.nil,hh.laid hH,q⟩
 refine wpAny_call (codeAny_mono (FH.run (X.A.mark (some (.ref a))) X.stack s _ ⟨[.ref a],[]⟩ [.ref a] [.ref a] Qv ⟨hr.dp,hr.un⟩ e0 (hb s [.ref a] It.kIn rfl) (.cons rfl .nil) sp) fun r s' hq=> ?_)
 cases r with
 | error e=>exact qa0 hq
 | ok fl=>
  cases fl with
  | ret u=>exact It.after hq
  | next=>exact qa0 hq
  | brk=>exact qa0 hq
  | cont=>exact qa0 hq
end
noncomputable def zg8 (known:List String) (gb:FS) (Fk:List D->M D):FS:=fun sd h=>match gb sd h with
 | .exc c h1=>if known.contains c=true then (do let d<-noX (Fk [.exn c]);pure (.rt d):M Out) h1 else .bad
 | r=>r
section
variable {X:Cx} {E:XE} {body:List Stmt} {ce en gk pe x:Str} {pce p1 p2 p3 p4 p5 hp pos:Pos} {CE fk:Addr} {fdk:FuncData} {Fk:List D->M D} {gb:FS} {j k i:Nat} {known:List String}
theorem zk5 {st:Stmt} {fin:Sd->D->M Out} {gt:FS} (hgt: ∀ sd h,gt sd h=match gb sd h with
      | .exc c h1=>if known.contains c=true then (do let d<-noX (Fk [.exn c]);fin sd d:M Out) h1 else .bad
      | r=>r)
  (z:zeP X) (hN:X.N.Nodup) (hj:X.N[j]? = some en) (hen:X.env.scope.names.lookup en=some .local) (hg:Gl X ce) (hm:X.mg ce=some (.ref CE))
  (hkn: ∀ c∈known, ∀ C,zbt X.K c C->W.exmOne X.K (.ref C) (.ref CE)=some true) (hd:(ce==("__debug__":Str))=false)
  (hb: ∀ pn xe E',zdQ (CXE X.prog X.w) (X.re pn xe) (zo2 X.K E')->SSs (X.re pn xe) E' body gb)
  (hst: ∀ (X':Cx) (pins:List (Addr×Obj)) (σ:L2.St) (H:Hp) (s:Shared) (a:Addr) (D0:zmC) (sd:Sd) (Q:Flow->Shared->Prop) (Ef:Value->Shared->Prop) (pn:List (Addr×Obj)) (xe:Value->Shared->Prop),X'=X.re pn xe->Inv X' pins (σ.set j (some (.ref a))) H s->sd.length=X.N.length->
    (∀ Qv:VK,(∀ d ι' H' h',zaQ X.K ι' H' h'->Fin X.K E ι' H' (fin sd d h') (zfp X.K D0)-> ∀ v,Rel X.K ι' H' d v->Qv v H')->
      wpAny (model X.prog X.w) (X.A.mark (some (.ref a))) (eval (.Call (.Name gk p1) [.Name en p2] [] p3) X.env) (fun u s8=> ∃ v H8,Inv X' pins (σ.set j (some (.ref a))) H8 s8/\zbk v u/\Qv v H8) (fun _ _=>False) s)->
    (∀ f s9,SP X' pins D0 f s9->Q f s9)->
    wpAny (model X.prog X.w) (X.A.mark (some (.ref a))) (execs [st] X.env) (fun f s4=>wpAny (model X.prog X.w) X.A (do bindName X.env en .none;unbindBehindTheSuite X.env en hp) (fun _ s5=>Q f s5) Ef s4) (fun _ _=>False) s)
  (FH:FnH X.prog X.w X.K X.mg X.base k fk fdk [pe] (zb6 X.K 1 Fk)) (hbk:zaN X.K fdk [pe] []) (hgk:Gl X gk) (hmk:X.mg gk=some (.ref fk)) (kp:W.keepIn X.K (.ref fk)=true) (hr:zcz k X.A) (hd2:(gk==("__debug__":Str))=false) (hd3:(en==("__debug__":Str))=false):
  SS X E (.Try body [.ExceptHandler (some (.Name ce pce)) (some en) [st] hp] [] [] pos) gt:=by
 intro pins s σ H D0 I ⟨ι,h,sd,L,hh,q⟩
 refine wpAny_Try_except ?_
 rw [hgt] at q
 let xe':Value->Shared->Prop:=fun e s₁=>wpAny (model X.prog X.w) X.A (noteFrame e X.env) (fun _ s₂=>wpAny (model X.prog X.w) X.A (setFlight e none) (fun _ s₃=>wpAny (model X.prog X.w) X.A (handleBy e X.env [.ExceptHandler (some (.Name ce pce)) (some en) [st] hp]) (SP X pins D0) X.xe s₃) X.xe s₂) X.xe s₁
 cases hres:gb sd h with
 | bad=>rw [hres] at q;exact qa0 q
 | ok o1 h1=>
  rw [hres] at q
  have run:=hb (X.pn++pins) xe'
   E0x (fun pins' σ' H1 s1 e s2 I1 hx=>by obtain ⟨a,C,H2,_,_,c,C',_,_,w⟩:=hx;exact w.elim) [] s σ H D0 (I.re _) ⟨ι,h,sd,L,hh,by rw [hres];exact q⟩
  refine qaZ run (fun f s1 hs=> ?_) fun _ _ w=>w
  have hs':=hs.unre
  cases f with
  | next=>exact wpAny_execs_nil hs'
  | ret u=>exact hs'
  | brk=>exact hs'
  | cont=>exact hs'
 | exc c h1=>
  rw [hres] at q
  by_cases hk:known.contains c=true
  ·simp only [hk,if_true] at q
   have run:=hb (X.pn++pins) xe'
    (fun c' H'=>c'=c/\ ∃ ι',za6 ι H ι' H'/\zaQ X.K ι' H' h1) (fun pins' σ' H1 s1 e s2 I1 hx=>by
      obtain ⟨a,C,H2,rfl,y,c',C',e1,hc,rfl,ι',st1,hr1⟩:=hx
      cases e1
      have z':zeP (X.re (X.pn++pins) xe'):=⟨z.stk,z.frm,z.ex⟩
      obtain ⟨f1,f2,f3⟩:=y.fresh
      refine Fl.caught (X:=X.re (X.pn++pins) xe') (b₀:=st) (suite:=[]) (pce:=pce) (pos:=hp) (Q:=SP X pins D0) (E:=X.xe) z' I1 y hN hj hen hg hm (hkn c' (by simpa using hk) C hc) (fun s6 I6 ⟨head,x6⟩=> ?_) hd
      obtain ⟨o,vs,ho,ob⟩:=x6
      have hnil: ∀ b,b∉X.ex:=fun b h=>by rw [z.ex] at h;cases h
      refine hst _ pins' σ' H2 s6 a D0 sd (SP X pins D0) X.xe _ _ rfl I6 (L.1.trans I.len) (fun Qv hQ=> ?_) fun f s9 w=>w.unre
      have hσ:(σ'.set j (some (V.ref a)))[j]? = some (some (.ref a)):=qai (by rw [I1.len];exact (qac.mp hj).1)
      refine ziS (X:=X.re _ _) I6 f2 ho ob ?_ (fun w=> ?_) (fun x c e w=> ?_) (fun p hp w=> ?_) hj hσ hen FH hbk hgk hmk kp hr hc hr1 ?_ hd2 hd3
      · cases w:X.s₀.heap.get? a with
        | none=>exact w
        | some ob=>
          obtain ⟨o',e'⟩:=I1.base.there a ob w (hnil a)
          rw [f1] at e'
          cases e'
      · obtain ⟨m,⟨oL,_,_,hoL,_⟩,_⟩:=I1.loc
        have hoL:s1.heap.get? X.env.locals=some oL:=hoL
        rw [<- show a=X.env.locals from w,f1] at hoL
        cases hoL
      · obtain ⟨v,oc,hoc,_⟩:=I1.cell x c e
        rw [w,f1] at hoc
        cases hoc
      · have e:=(I1.pin p hp).1
        rw [w,f1] at e
        cases e
      · have q1:=Fin.step (st1.trans (hr1.laidS (o:= .frz o (.own 0)) f2)) q
        exact Fin.noX (Fin.bind q1 fun d h' ι8 H8 e8 s8 hr8 q8 v rv=>hQ d ι8 H8 h' hr8 q8 v rv))
    [] s σ H {nx:=fun _ _=>False,rt:=fun _ _=>False} (I.re _) ⟨ι,h,sd,L,hh,by rw [hres];exact fun ι' H' st1 hr1=>⟨rfl,ι',st1,hr1⟩⟩
   refine qaZ run (fun f s1 hs=> ?_) fun _ _ w=>w
   cases f with
   | next=>obtain ⟨_,_,_,w⟩:=hs;exact w.elim
   | brk=>obtain ⟨_,_,_,w⟩:=hs;exact w.elim
   | cont=>obtain ⟨_,_,_,w⟩:=hs;exact w.elim
   | ret u=>obtain ⟨_,_,_,_,_,w⟩:=hs;exact w.elim
  ·simp only [hk] at q
   exact qa0 q
theorem zqp (z:zeP X) (hN:X.N.Nodup) (hj:X.N[j]? = some en) (hen:X.env.scope.names.lookup en=some .local) (hg:Gl X ce) (hm:X.mg ce=some (.ref CE))
  (hkn: ∀ c∈known, ∀ C,zbt X.K c C->W.exmOne X.K (.ref C) (.ref CE)=some true)
  (hb: ∀ pn xe E',zdQ (CXE X.prog X.w) (X.re pn xe) (zo2 X.K E')->SSs (X.re pn xe) E' body gb)
  (FH:FnH X.prog X.w X.K X.mg X.base k fk fdk [pe] (zb6 X.K 1 Fk)) (hbk:zaN X.K fdk [pe] []) (hgk:Gl X gk) (hmk:X.mg gk=some (.ref fk)) (kp:W.keepIn X.K (.ref fk)=true) (hr:zcz k X.A)
  (hd:(ce==("__debug__":Str))=false:=by decide) (hd2:(gk==("__debug__":Str))=false:=by decide) (hd3:(en==("__debug__":Str))=false:=by decide):
  SS X E (.Try body [.ExceptHandler (some (.Name ce pce)) (some en) [.Return (some (.Call (.Name gk p1) [.Name en p2] [] p3)) p4] hp] [] [] pos) (zg8 known gb Fk):=by
 refine zk5 (fin:=fun _ d=>pure (.rt d)) (p1:=p1) (p2:=p2) (p3:=p3) (fun sd h=>rfl) z hN hj hen hg hm hkn hd hb (fun X' pins σ H s a D0 sd Q Ef pn xe hX I6 hl ev hQ=> ?_) FH hbk hgk hmk kp hr hd2 hd3
 subst hX
 refine wpAny_execs_cons ?_
 refine wpAny_Return_some (qaZ (ev (fun v H'=>D0.rt v H') fun d ι' H' h' hr1 q v rv=>Fin.out hr1 q v rv) (fun u s8 hv=> ?_) fun _ _ w=>w)
 obtain ⟨v,H8,I8,rv,qv⟩:=hv
 exact znt (X:=X.re pn xe) I8 hN hj hen fun s9 I9=>hQ _ s9 ⟨v,_,H8,I9,rv,qv⟩
noncomputable def zh1 (c:String):FS:=fun _ h=> .exc c h
theorem zmO {c:String} {C:Addr} {nid:String} {msg:Str} {jj:Nat} {np cpos:Pos} (hc:X.calm=true) (hp:zng X E) (hX:W.excIn X.K C ziO "ValueError.__new__"=true) (hcl:zbt X.K c C) (hg:Gl X (c:Str)) (hd:((c:Str)==("__debug__":Str))=false:=by decide):
  SS X E (.Raise (some (.Call (.Name (c:Str) np) [.Constant (.str msg) jj p2] [] cpos)) none pos) (zh1 c):=by
 intro pins s σ H D0 I ⟨ι,h,sd,L,hh,q⟩
 have hE:E c H:=q ι H (za6.refl _ _) hh
 have hm:X.mg (c:Str)=some (.ref C):=W.mg_of I.ok.mod.kin I.ok.mod.glob hcl
 obtain ⟨tl,N,nm,qq,bs,hdct,sn,sub,ab,col,dd,k0,k1,k2,k3,k5,mN,hC,hNs,hni,T⟩:=(znu (x:=(c:Str)) I.ok.mod.kin hm hX).obj
 refine wpAny_Raise_call_subT (C:=C) (nm:=nm) (q:=qq) (N:=N) (bs:=bs) (bm:=tl) (hdct:=hdct) (sn:=sn) (sub:=sub) (ab:=ab) (col:=col) (dd:=dd) (k0:=k0) (k1:=k1) (k2:=k2) (k3:=k3) (k5:=k5)
  PySem.F.excBase_ValueError (mN:=mN) (T.hasType PySem.F.excBase_ValueError.hasBase) (I.ok.hd hc) rfl hni (zgX I hg hm ⟨rfl,?_⟩ hd)
 refine Calls.evalArgs_plain (x:=eval (.Constant (.str msg) jj p2) X.env) (rest:=[]) ?_
 refine Calls.spliced_cons (thn (zmD pins s σ H (fun v H1=>H1=H) I rfl) fun u s1 hu=> ?_)
 obtain ⟨v,H1,I1,rv,rfl⟩:=hu
 refine Calls.spliced_nil ⟨rfl,by show 1<=sizeLine;decide,I1.bk _ _ hC,hNs.keeps I1.bk,T.keeps I1.bk,fun h' e m=> ?_⟩
 exact hp pins σ H1 s1 h' e C c _ I1 hcl m hE
end
end L3
namespace L3
open PySem PySem.W
theorem zgz {K:Frag} {C:Addr} {name:Str} {a g:Value} (hc:(clsIn K C).isSome=true) (ha:findIn K (.ref C) name=some (some a)) (hg:specialIn K a "__get__"=some (some g)) (ht:takesIn K a=some true):findObj K C none name=some (.bind g a):=by
 obtain ⟨cd,hc⟩:=Option.isSome_iff_exists.mp hc
 unfold findObj
 rw [hc,Option.bind_some,ha,Option.bind_some]
 simp [hg,ht]
section
variable {prog:Program} {w:World} {A:Around} {E:Value->Shared->Prop} {s:Shared} {K:Frag} {x D:Addr} {ox:Obj}
theorem zko {Q:Option Value->Shared->Prop} (X:K.In s.heap) (I:InstAt s.heap x ox D none) (hc:(clsIn K D).isSome=true) (hga:findIn K (.ref D) "__getattribute__"=some (some (.builtin "BaseException.__getattribute__"))) (hk:findIn K (.ref D) "__getattr__"=some none)
  (ha:findIn K (.ref D) "__class__"=some (some (.builtin "object.__class__"))) (hn:specialIn K (.builtin "object.__class__") "__get__"=some (some (.builtin "getset_descriptor.__get__"))) (htk:takesIn K (.builtin "object.__class__")=some true)
  (hm:mroIn K D (.type "object")=some true) (hmB:mroIn K D (.type "BaseException")=some true) (h:Q (some (.ref D)) {s with toks:=s.toks+1}):wpAny (model prog w) A (getAttr? (.ref x) "__class__") Q E s:=by
 obtain ⟨hh,g,d,t,os⟩:=s
 have L0:=I.type (M:=model prog w)
 have L1:=looks_findIn (M:=model prog w) X hga
 have L2:=looks_findIn (M:=model prog w) X hk
 have L3:=looks_find (M:=model prog w) X I (zgz hc ha hn htk)
 have LB:Looks (model prog w) hh (isInstance (.ref x) (.type "BaseException")) true:=L0.andThen (looks_mroIn X hmB)
 have f3:=PySem.F.attr_ValueError.ga.bind (.ref x)
 have hx2:(Value.builtin "BaseException.__getattribute__"==Value.builtin "object.__getattribute__")=false:=by decide +kernel
 unfold getAttr? getAttrBy? getAttrBy
 refine qaW (wpAny_mkText (qaW (wpAny_attempt (qaO (qaW (L0.at (qaW (L1.at ?_))))))))
 dsimp only
 rw [hx2,Bool.and_false,qa5 Bool.false_ne_true]
 unfold getAttrByItsOwn hookBefore
 rw [qa4 (show onTheHeap (Value.ref D)=true from rfl)]
 refine qaW (L2.at ?_)
 refine qaW (wpAny_attempt (qaO ?_))
 unfold callGetattribute
 rw [qa5 (by simp)]
 unfold boundAndCalled
 rw [f3]
 refine qaW (qaX ?_)
 refine wpAny_call (codeAny_call_builtin PySem.F.attr_ValueError.ga.plain PySem.F.entry_bexc_ga ?_)
 have kd:builtinKind "BaseException.__getattribute__"=some .slot:=by decide +kernel
 have sp:splitId "BaseException.__getattribute__"=some ("BaseException","__getattribute__"):=by decide +kernel
 have ag:=PySem.F.args_bexc_ga (.ref x) (.str "__class__" t)
 simp only [checkBuiltinCall,kd,sp]
 refine qaW (LB.at ?_)
 rw [qa5 (by decide)]
 refine wpAny_of_eq (a:=()) ag ?_
 unfold Builtin.«object.__getattribute__»
 refine qaW (qaX ?_)
 refine qaW (qaX ?_)
 refine qaW (L0.at ?_)
 refine qaW (L3.at ?_)
 dsimp only
 unfold Builtin.ObjectAttr.bindTo
 dsimp only
 refine qaW (qaO (wpAny_call (class_get (s:=⟨hh,g,d,t+1,os⟩) X I hm ?_)))
 refine qaX ?_
 dsimp only
 refine wpAny_of_eq (a:=Value.ref D) rfl ?_
 exact qaX h
end
end L3
namespace L3
open PySem PySem.Spec PyProof.Rows L2
noncomputable def kxb (K:W.Frag) (C:Addr):Bool:=(W.clsIn K C).isSome && W.findIn K (.ref C) "__getattribute__"==some (some (.builtin "BaseException.__getattribute__")) && W.findIn K (.ref C) "__getattr__"==some none && W.findIn K (.ref C) "__class__"==some (some (.builtin "object.__class__"))
 && W.specialIn K (.builtin "object.__class__") "__get__"==some (some (.builtin "getset_descriptor.__get__")) && W.takesIn K (.builtin "object.__class__")==some true && W.mroIn K C (.type "object")==some true && W.mroIn K C (.type "BaseException")==some true
theorem zl1 {K:W.Frag} {x C:Addr} {ox:Obj} (h:kxb K C=true):W.KitX K (.ref x) (.ref C) (fun h=>W.InstAt h x ox C none):=by
 unfold kxb at h
 simp only [qaG,beq_iff_eq] at h
 obtain ⟨⟨⟨⟨⟨⟨⟨h1,h2⟩,h3⟩,h4⟩,h5⟩,h6⟩,h7⟩,h8⟩:=h
 refine ⟨fun _ _ _ I=>I.type,fun M hp X _=> ?_,fun hp tp dd its n sl X htp=> ?_,fun X I k=>zko X I h1 h2 h3 h4 h5 h6 h7 h8 k⟩
 ·obtain ⟨cd,hc⟩:=Option.isSome_iff_exists.mp h1
  unfold W.clsIn at hc
  split at hc
  ·rename_i lk
   intro A' Q' E' s' k q
   unfold isType loadHead
   exact qaW (wpAny_loadPart (k _ _ (X _ _ lk)) (qaX q))
  ·cases hc
 ·refine Bool.eq_false_iff.mpr fun q=> ?_
  have e:C=tp:=Value.ref.inj (beq_iff_eq.mp q)
  subst e
  obtain ⟨cd,hc⟩:=Option.isSome_iff_exists.mp h1
  unfold W.clsIn at hc
  split at hc
  ·rename_i lk
   have z:=(X _ _ lk).symm.trans htp
   cases z
  ·cases hc
structure zrl (K:W.Frag) (CE:Addr) (names:List String) (c:String) (C:Addr):Prop where
 exc:W.excIn K C ziO "ValueError.__new__"=true
 cov:W.exmOne K (.ref C) (.ref CE)=some true
 kx:kxb K C=true
 ve:W.kitOne K (.ref C) (.type "ValueError")=some true
 one: ∀ c'∈names, ∀ C',zbt K c' C'->W.kitOne K (.ref C) (.ref C')=some (c==c')
def zkN (K:W.Frag) (CE:Addr) (names:List String):Prop:= ∀ c∈names, ∀ C,zbt K c C->zrl K CE names c C
noncomputable def zjw (K:W.Frag) (CE:Addr) (tab:List (String×Addr)):Bool:=tab.all fun p=>W.nsIn K mainGlobals (p.1:Str)==some (some (.ref p.2)) && W.excIn K p.2 ziO "ValueError.__new__" && W.exmOne K (.ref p.2) (.ref CE)==some true && kxb K p.2 && W.kitOne K (.ref p.2) (.type "ValueError")==some true
 && tab.all fun r=>W.kitOne K (.ref p.2) (.ref r.2)==some (p.1==r.1)
theorem zkN.of {K:W.Frag} {CE:Addr} {tab:List (String×Addr)} (h:zjw K CE tab=true):zkN K CE (tab.map (·.1)):=by
 unfold zjw at h
 rw [List.all_eq_true] at h
 have key: ∀ c∈tab.map (·.1), ∀ C,zbt K c C->(c,C)∈tab:=fun c hc C hC=>by
  obtain ⟨p,hp,rfl⟩:=qaU.mp hc
  have h1:=h p hp
  simp only [qaG,beq_iff_eq] at h1
  have e:=h1.1.1.1.1.1
  unfold zbt at hC
  rw [hC] at e
  cases e
  exact hp
 intro c hc C hC
 have h1:=h _ (key c hc C hC)
 simp only [qaG,beq_iff_eq,List.all_eq_true] at h1
 obtain ⟨⟨⟨⟨⟨a1,a2⟩,a3⟩,a4⟩,a5⟩,a6⟩:=h1
 exact ⟨a2,a3,a4,a5,fun c' hc' C' hC'=>a6 _ (key c' hc' C' hC')⟩
theorem zkN.known {K:W.Frag} {CE:Addr} {names:List String} (h:zkN K CE names): ∀ c∈names, ∀ C,zbt K c C->W.exmOne K (.ref C) (.ref CE)=some true:=fun c hc C hC=>(h c hc C hC).cov
noncomputable def ziL (names:List String) (T:String):D->M D
 | .exn c=>if names.contains c && names.contains T then pure (.bl (c==T)) else M.bad
 | _=>M.bad
noncomputable def zqz (names:List String):D->M D
 | .exn c=>if names.contains c then pure (.bl true) else M.bad
 | _=>M.bad
section
variable {X:Cx} {E:XE}
theorem zhB:zaD X (.builtin "isinstance") (fun xs H Q=> ∃ a o C vs x u b,xs=[.ref a,x]/\H a=some (.frz o (.own 0))/\(o.cls= .ref C/\o.dict=none/\o.data= .fields vs)/\kxb X.K C=true/\zbk x u/\(∀ u',zbk x u'->u'=u)/\W.kitOne X.K (.ref C) u=some b/\Q (.bl b) H):=by
 intro pins s σ H xs us Q I r h
 obtain ⟨a,o,C,vs,x,u,b,rfl,hH,⟨o1,o2,o3⟩,hk,hu,hu2,e,q⟩:=h
 cases r with
 | cons r1 r2=>
  cases r2 with
  | cons r3 r4=>
   cases r4
   cases r1
   have:=hu2 _ r3
   subst this
   have ho:=(I.hok a _ hH).1
   refine W.kia_one (zl1 (x:=a) (ox:=o) hk) I.kIn ⟨ho,o1,by unfold W.notCls;rw [o3],by rw [o2];trivial⟩ e (fun z=>nomatch z) fun tk=>⟨.bl b,H,I.tok tk,rfl,q⟩
variable {a:Expr} {p1 p2 pos:Pos} {fa:FE} {CE CC:Addr} {names:List String}
theorem zeF {c':String} (hx:zkN X.K CE names) (hc':names.contains c'=true) (hcl:zbt X.K c' CC) (hm:X.mg "isinstance"=none) (hmC:X.mg (c':Str)=some (.ref CC)) (ha:SE X E a fa) (hg:Gl X "isinstance":=by rfl) (hgC:Gl X (c':Str):=by rfl)
  (hd:((c':Str)==("__debug__":Str))=false:=by decide)
  (h1:starEach [a,.Name (c':Str) p2] X.env=(false,eval a X.env)::starEach [.Name (c':Str) p2] X.env:=by rfl) (h2:starEach [.Name (c':Str) p2] X.env=[(false,eval (.Name (c':Str) p2) X.env)]:=by rfl)
  (hpl:(backTo pos (starEach [.Name (c':Str) p2] X.env)).any (·.1)=false:=by rfl):
  SE X E (.Call (.Name "isinstance" p1) [a,.Name (c':Str) p2] [] pos) (cUn (ziL names c') fa):=by
 refine PE.imp (zdm zhB hg hm PyProof.Rows.boot_isinstance (zaE ha (zaE (zol (v:= .ref CC) hgC hmC rfl hd) za8 h2) h1) (he:=h1) (hpl:=hpl)) fun σ H Q ⟨ι,h,sd,L,hh,q⟩=>⟨ι,h,sd,L,hh,Fin.bind q fun d h1 ι1 H1 e1 s1 hr1 q1 v rv=> ?_⟩
 cases d with
 | exn c=>
  obtain ⟨hg1,q2⟩:=Fin.guard (show Fin X.K E ι1 H1 ((if (names.contains c && names.contains c')=true then (pure (.bl (c==c')):M D) else M.bad) h1) _ from q1)
  rw [qaG] at hg1
  simp only [Rel] at rv
  obtain ⟨b,o,C,head,vs,rfl,⟨r1,_⟩,r2,r3,r4,r5,_⟩:=rv
  have ok:=hx c (by simpa using hg1.1) C r2
  exact ⟨b,o,C,vs,.ref CC,.ref CC,c==c',rfl,r1,⟨r3,r4,r5⟩,ok.kx,rfl,fun u' z=>z,ok.one c' (by simpa using hc') CC hcl,Fin.out hr1 q2 _ (by simp [Rel])⟩
 | _=>exact qa0 q1
theorem zqh (hx:zkN X.K CE names) (hm:X.mg "isinstance"=none) (hmT:X.mg "ValueError"=none) (ha:SE X E a fa) (hg:Gl X "isinstance":=by rfl) (hgT:Gl X "ValueError":=by rfl)
  (h1:starEach [a,.Name "ValueError" p2] X.env=(false,eval a X.env)::starEach [.Name "ValueError" p2] X.env:=by rfl) (h2:starEach [.Name "ValueError" p2] X.env=[(false,eval (.Name "ValueError" p2) X.env)]:=by rfl)
  (hpl:(backTo pos (starEach [.Name "ValueError" p2] X.env)).any (·.1)=false:=by rfl):
  SE X E (.Call (.Name "isinstance" p1) [a,.Name "ValueError" p2] [] pos) (cUn (zqz names) fa):=by
 refine PE.imp (zdm zhB hg hm PyProof.Rows.boot_isinstance (zaE ha (zaE (zkb (v:= .ty "ValueError") hgT hmT (by decide +kernel) rfl) za8 h2) h1) (he:=h1) (hpl:=hpl)) fun σ H Q ⟨ι,h,sd,L,hh,q⟩=>⟨ι,h,sd,L,hh,Fin.bind q fun d h1 ι1 H1 e1 s1 hr1 q1 v rv=> ?_⟩
 cases d with
 | exn c=>
  obtain ⟨hg1,q2⟩:=Fin.guard (show Fin X.K E ι1 H1 ((if names.contains c=true then (pure (.bl true):M D) else M.bad) h1) _ from q1)
  simp only [Rel] at rv
  obtain ⟨b,o,C,head,vs,rfl,⟨r1,_⟩,r2,r3,r4,r5,_⟩:=rv
  have ok:=hx c (by simpa using hg1) C r2
  exact ⟨b,o,C,vs,.ty "ValueError",.type "ValueError",true,rfl,r1,⟨r3,r4,r5⟩,ok.kx,rfl,fun u' z=>z,ok.ve,Fin.out hr1 q2 _ (by simp [Rel])⟩
 | _=>exact qa0 q1
end
end L3
namespace L3
open PySem
section
variable {prog:Program} {w:World} {A:Around} {E:Value->Shared->Prop} {s:Shared}
theorem zln {l:Addr} {xs:Array (Int×Tok)} {Q:Value->Shared->Prop} (hh:zkp A s.heap) (hl:s.heap.IsList l (intItems xs))
  (k: ∀ h' tk t',(∀ b o,s.heap.get? b=some o->h'.get? b=some o)->Q (.int (preSum (numAt xs) xs.size) t') {s with heap:=h',toks:=tk}):wpAny (model prog w) A (call (.builtin "sum") [.ref l]) Q E s:=by
 refine call_sum_walkG (iter_intList hl fun s₂ e st hfp hlI=> ?_)
 subst e
 rcases hh with hh | ⟨ha,cls,head,hh,hX⟩
 ·refine ⟨_,_,_,_,_,_,numAt xs,rfl,Walks.list (A:=A.in1) hh _ l hlI (intItems xs),st,hfp,(fun _ _=>intItems_at),fun h' tk t' hk=> ?_⟩
  simpa [intItems] using k h' tk t' (old_kept hk)
 ·obtain ⟨ob,vs,x1,x2⟩:=id hX
  have hX2:=hX.keep (h':=s.heap.push {cls:= .type "list_iterator",data:= .fields #[.ref l,.int 0 0]}) fun o e=>qag _ e
  refine ⟨_,_,_,_,_,_,numAt xs,rfl,zih (A:=A.in1) (ha:=ha) (cls:=cls) (head:=head) hh _ l hlI (qaR (qaQ x1)) (intItems xs),⟨st.1,st.2,hX2⟩,fun b hb=> ?_,(fun _ _=>intItems_at),fun h' tk t' hk=> ?_⟩
  ·simp only [qaP,qaF,or_false] at hb
   rcases hb with z | z | z
   ·exact hfp b (by simp [z])
   ·exact hfp b (by simp [z])
   ·rw [z]
    show ha<(s.heap.push _).objs.size
    rw [qaL]
    exact Nat.lt_succ_of_lt (qaQ x1)
  ·simpa [intItems] using k h' tk t' (old_kept hk)
end
end L3
namespace L2
open PySem PySem.Spec PyProof.Rows L3
section
variable {X:Cx}
theorem zkv:zaD X (.builtin "sum") (fun xs H Q=> ∃ (a:Addr) (ns:List Int),xs=[.ref a]/\SqL X.K H a (ns.map V.int)/\Q (.int ns.sum) H):=by
 intro pins s σ H xs us Q I r h
 obtain ⟨a,ns,rfl,hq,q⟩:=h
 obtain ⟨u,rfl,rx⟩:=zcI r
 cases rx
 obtain ⟨its,r',pl,hz⟩:=I.list hq
 have hi:=zb8 r'
 obtain ⟨ys,hy⟩:=hi.allInts.items
 have hl:s.heap.IsList a (intItems ys):=hy▸pl.isList
 refine zln I.hand hl fun h' tk t' hk=> ?_
 have e1:ns=ys.toList.map (·.1):=by
  rw [<- nums_intItems, <-hy]
  exact (show numsOf its.toArray.toList=ns from hi.numsOf).symm
 have e2:preSum (numAt ys) ys.size=ns.sum:=by rw [preSum_eq,List.take_of_length_le (by simp),e1]
 rw [e2]
 exact ⟨.int ns.sum,H,I.grown (s':={s with heap:=h',toks:=tk}) rfl rfl hk,⟨t',rfl⟩,q⟩
theorem ze4: ∀ {bs:List Bool} {its:List Value},zaM (bs.map V.bl) its->its=bs.map Value.bool
 | [],_,h=>by cases h;rfl
 | b::bs,_,h=>by
  cases h with
  | cons r t=>cases r;rw [ze4 t];rfl
theorem zjO:MtR X "list.index" (fun x vs H Q=> ∃ (l:Addr) (bs:List Bool) (j:Nat),x= .ref l/\vs=[.bl true]/\SqL X.K H l (bs.map V.bl)/\bs[j]? = some true/\(∀ m,m<j->bs[m]? = some false)/\Q (.int (j:Int)) H):=by
 intro pins s σ H x vs v us Q I rx rv h
 obtain ⟨l,bs,j,rfl,rfl,hq,hj,hno,q⟩:=h
 cases rx
 obtain ⟨u,rfl,ru⟩:=zcI rv
 cases ru
 obtain ⟨its,r,pl,hz⟩:=I.list hq
 have eit:=ze4 r
 subst eit
 obtain ⟨ob,e1,c1,n1,d1⟩:=pl.isList
 obtain ⟨cc,dd,dt,sl⟩:=ob
 dsimp only at c1 d1
 subst c1 d1
 have hlt:j<bs.length:=(qac.mp hj).1
 rw [qaH] at hz
 have sz:(j:Int)<2^63 - 1:=by
  have:sizeLine<2^40:=by decide
  omega
 refine call_meets F.slot_list_index ⟨_,e1,rfl⟩ F.entry_list_index (F.args_list_index_2 _ _)
  (PySem.SeqAt.list_indexAt l _ n1 dd sl (.bool true) (fun v=>match v with | .bool b=>b | _=>false) j (by simpa using hlt) sz ?_ ?_) ⟨e1,fun y hy=> ?_,⟨.int j,H,I.tok _,⟨_,rfl⟩,q⟩⟩
 ·have:=(qac.mp hj).2
  simp [this]
 ·intro m hm hmj
  have:=(qac.mp (hno m hmj)).2
  simp [this]
 ·obtain ⟨b,_,rfl⟩:=qaU.mp (List.mem_toArray.mp hy)
  have:=PySem.SeqAt.EqAt.bool_bool (A:=X.A.in1) (s:=s) b true
  simpa using this
end
end L2
namespace L3
open PySem PySem.Spec PyProof.Rows L2
noncomputable def zsr (f:FE):FE:=fun sd=>noX (f sd)
noncomputable def zsu (f:FS):FS:=fun sd=>noX (f sd)
section
variable {X:Cx} {E:XE} {a e o:Expr} {es:List Expr} {pos p cpos apos:Pos} {f fo fe fa:FE} {fs:FA} {x:Str}
theorem zod {k:Nat} {g:Addr} {fd:FuncData} {ps:List Str} {n:Nat} {F:List D->M D} (G:zbw X.prog X.w X.K X.mg X.base (CXE X.prog X.w) k g fd ps (spE X.K n F)) (hx:zdQ (CXE X.prog X.w) X (zo2 X.K E)) (hr:zcO k X.A) (hm:X.mg x=some (.ref g)) (hk:W.keepIn X.K (.ref g)=true) (hb:zaN X.K fd ps [])
  (ha:SA X E (e::es) fs) (hg:Gl X x:=by rfl) (hdb:(x==("__debug__":Str))=false:=by decide) (he:starEach (e::es) X.env=(false,eval e X.env)::starEach es X.env:=by rfl) (hpl:(backTo pos (starEach es X.env)).any (·.1)=false:=by rfl):
  SE X E (.Call (.Name x p) (e::es) [] pos) (zaz (zaq n F) fs):=zla G hx hr hg hm hk hb ha hdb he hpl
theorem zkK {k:Nat} {g:Addr} {fd:FuncData} {ps:List Str} {n:Nat} {F:List D->M D} (G:zbw X.prog X.w X.K X.mg X.base CX0 k g fd ps (zb6 X.K n F)) (hr:zcO k X.A) (hm:X.mg x=some (.ref g)) (hk:W.keepIn X.K (.ref g)=true) (hb:zaN X.K fd ps [])
  (ha:SA X E (e::es) fs) (hg:Gl X x:=by rfl) (hdb:(x==("__debug__":Str))=false:=by decide) (he:starEach (e::es) X.env=(false,eval e X.env)::starEach es X.env:=by rfl) (hpl:(backTo pos (starEach es X.env)).any (·.1)=false:=by rfl):
  SE X E (.Call (.Name x p) (e::es) [] pos) (zaz (zaq n fun ds=>noX (F ds)) fs):=zlh G hr hg hm hk hb ha hdb he hpl
theorem zmQ {c:String} {C CE:Addr} {names:List String} {msg:Str} {jj:Nat} {np p2:Pos} (hc:X.calm=true) (hp:zng X E) (hX:zkN X.K CE names) (hn:names.contains c=true) (hcl:zbt X.K c C) (hg:Gl X (c:Str):=by rfl) (hd:((c:Str)==("__debug__":Str))=false:=by decide):
  SS X E (.Raise (some (.Call (.Name (c:Str) np) [.Constant (.str msg) jj p2] [] cpos)) none pos) (zh1 c):=zmO (nid:="") hc hp (hX c (by simpa using hn) C hcl).exc hcl hg hd
theorem znn {scope:Scope} {N:List Str} {src:List (Option Nat)} {tg iter elt:Expr} {ifs:List Expr} {fi:FA} {g:D->Sd->M Sd} {tc:FT} {te:FE} (B:BOk X scope N src) (hk:zaF g src) (hi:SI X E tg iter fi)
  (hg: ∀ s H fp,SG (cxB X scope N s H fp) E tg g) (ht: ∀ s H fp,SCs (cxB X scope N s H fp) E ifs tc) (he: ∀ s H fp,SE (cxB X scope N s H fp) E elt te)
  (hs: ∀ x,foldedSetIterable iter X.env x=pure x:=by intro _;rfl):SE X E (.ListComp elt [⟨tg,iter,ifs,0⟩] scope pos) (zaI fi g tc te src):=zkz B hk hi hg ht he hs
noncomputable def znN:List D->M D
 | [.int i]=>pure (.int i)
 | [.bl b]=>pure (.int (if b then 1 else 0))
 | _=>M.bad
theorem ziH:zaD X (.type "int") (zhs X.K E znN):=by
 refine zaD.imp zjX fun xs H Q ⟨ι,h,ds,rl,hr,q⟩=> ?_
 unfold znN at q
 split at q
 ·simp only [zam,Rel] at rl
  obtain ⟨v,r,rfl,rfl,rfl⟩:=rl
  exact .inl ⟨_,rfl,Fin.out hr q _ (by simp [Rel])⟩
 ·simp only [zam,Rel] at rl
  obtain ⟨v,r,rfl,rfl,rfl⟩:=rl
  exact .inr ⟨_,rfl,Fin.out hr q _ (by simp [Rel])⟩
 ·exact qa0 q
theorem ziz:zaD X (.builtin "sum") (zhs X.K E zsf):=by
 refine zaD.imp zkv fun xs H Q ⟨ι,h,ds,rl,hr,q⟩=> ?_
 obtain ⟨d,v,e,r,q⟩:=zcb rl q
 cases d with
 | lst ds=>
  obtain ⟨a,vs,e',h1,h2⟩:=zdU r
  obtain ⟨ns,en,q⟩:=Fin.ofOb q
  have:=zcw h2 en
  subst this
  exact ⟨a,ns,by rw [e,e'],h1,Fin.out hr q _ (by simp [Rel])⟩
 | _=>exact qa0 q
noncomputable def zoX:D->M D
 | .lst ds=>do
  let bs<-ofO (zkW ds)
  let j<-ofO (bs.findIdx? id)
  pure (.int j)
 | _=>M.bad
theorem zm6 {jj:Nat} {p2:Pos} (ho:SE X E o fo)
  (hbase:attributeBase o "index" X.env (eval o X.env)=eval o X.env:=by rfl)
  (hfew:((backTo cpos (starEach [.Constant (.bool true) jj p2] X.env)).all (fun x=> !x.1) && (backToKw cpos (keywordEach [] X.env)).all (fun x=>x.1.isSome)
    && decide (([.Constant (.bool true) jj p2]:List Expr).length+([]:List Keyword).length+(if ([]:List Keyword).isEmpty then 0 else 1)<30))=true:=by rfl)
  (hline:(apos.endLine==cpos.line)=true:=by rfl) (hs:starEach [.Constant (.bool true) jj p2] X.env=(false,eval (.Constant (.bool true) jj p2) X.env)::starEach [] X.env:=by rfl) (hplain:(backTo cpos (starEach [] X.env)).any (·.1)=false:=by rfl):
  SE X E (.Call (.Attribute o "index" apos) [.Constant (.bool true) jj p2] [] cpos) (cUn zoX fo):=by
 refine PE.imp (zjv PySem.F.plainAttrs_list PySem.F.slot_list_index PySem.F.type_list_index zjO ho (zaE zpS za8 hs) hbase hfew hline hs hplain) fun σ H Q ⟨ι,h,sd,L,hh,q⟩=>⟨ι,h,sd,L,hh,Fin.bind q fun d h1 ι1 H1 e1 s1 hr1 q1 v rv=> ?_⟩
 cases d with
 | lst ds=>
  obtain ⟨a,vs,e',h1',h2⟩:=zdU rv
  obtain ⟨bs,en,q2⟩:=Fin.ofOb q1
  obtain ⟨j,ej,q3⟩:=Fin.ofOb q2
  have:=zfG h2 en
  subst this
  subst e'
  refine ⟨.inl ⟨rfl,_,h1'⟩,a,bs,j,rfl,rfl,h1',?_,fun m hm=> ?_,Fin.out hr1 q3 _ (by simp [Rel])⟩
  ·obtain ⟨h3,h4,_⟩:=List.findIdx?_eq_some_iff_getElem.mp ej
   rw [qaf h3]
   simpa using h4
  ·obtain ⟨h3,h4,h5⟩:=List.findIdx?_eq_some_iff_getElem.mp ej
   rw [qaf (by omega)]
   simpa using h5 m hm
 | _=>exact qa0 q1
noncomputable def zgV (x y:D):M D:=match x,y with
 | .cel n,.tup zs=>do
  let ds<-zaf n
  fits (ds.length+zs.length)
  za2 n (ds++zs)
  pure .non
 | _,_=>M.bad
noncomputable def zmP (fo fe:FE):FE:=fun sd=>do
 let x<-fo sd
 zcl x
 let y<-fe sd
 zgV x y
end
section
variable {P:Program} {w:World} {K:W.Frag} {mg:Str->Option Value} {base:Heap}
theorem zpL {x qual:Str} {st:Stmt} {f:Addr} {fd:FuncData} {N ps:List Str} {k:Nat} {G:Sd->M Out} (F:Fun K x qual st f fd) (S:zau N ps (zae st))
  (hb: ∀ (cdv:Value) (A:Around) (outer:List Env) (s:Shared) (H:Hp),zcz k (A.deeper (envOfC qual (zae st) s.heap.objs.size f cdv))->SSs ({zg7 CX0 P w K mg base N qual (zae st) f cdv A outer s H E0 with calm:=false}:Cx).nox E0x (zbS st) G):
  FnH P w K mg base (k+1) f fd ps (zb6 K ps.length (zds N.length G)):=by
 obtain ⟨oc,od,kV,doc,pm,an,cdv,ct,osl,rfl,lk,hcd⟩:=F.ex
 refine zpd lk hcd S (fun vs H Q E h=>h.1) fun A outer s H vs Q hr ⟨hl,ι,h,ds,rl,hh,q⟩=>⟨_,hb cdv A outer s H hr,ι,h,zfb N.length ds,zdB rl,hh,?_⟩
 refine Fin.bind q fun o h1 ι1 H1 e1 s1 hr1 q1=> ?_
 cases o with
 | nx sd=>exact fun σ' _=>Fin.out hr1 q1 _ (by simp [Rel])
 | rt d=>exact fun v rv=>Fin.out hr1 q1 v rv
 | bk sd=>exact qa0 q1
 | ct sd=>exact qa0 q1
end
section
variable {X:Cx} {E:XE} {body:List Stmt} {ce en gk pe x:Str} {pce p1 p2 p3 p4 p5 hp pos:Pos} {CE fk:Addr} {fdk:FuncData} {Fk:List D->M D} {gb:FS} {k:Nat} {known:List String}
theorem zo0 (j:Nat) (z:zeP X) (hN:X.N.Nodup) (hm:X.mg ce=some (.ref CE)) (hkn:zkN X.K CE known)
  (FH:FnH X.prog X.w X.K X.mg X.base k fk fdk [pe] (zb6 X.K 1 Fk)) (hbk:zaN X.K fdk [pe] []) (hmk:X.mg gk=some (.ref fk)) (kp:W.keepIn X.K (.ref fk)=true) (hr:zcz k X.A)
  (hb: ∀ pn xe E',zdQ (CXE X.prog X.w) (X.re pn xe) (zo2 X.K E')->SSs (X.re pn xe) E' body gb)
  (hj:X.N[j]? = some en:=by rfl) (hen:X.env.scope.names.lookup en=some .local:=by rfl) (hg:Gl X ce:=by rfl) (hgk:Gl X gk:=by rfl)
  (hd:(ce==("__debug__":Str))=false:=by decide) (hd2:(gk==("__debug__":Str))=false:=by decide) (hd3:(en==("__debug__":Str))=false:=by decide):
  SS X E (.Try body [.ExceptHandler (some (.Name ce pce)) (some en) [.Return (some (.Call (.Name gk p1) [.Name en p2] [] p3)) p4] hp] [] [] pos) (zg8 known gb Fk):=zqp z hN hj hen hg hm hkn.known hb FH hbk hgk hmk kp hr hd hd2 hd3
end
noncomputable def zph (Fs:List (List D->M D)) (i:D):M (List D->M D):=match i with
 | .int j=>(match ixN Fs.length j with
   | some m=>ofO Fs[m]?
   | none=>M.bad)
 | _=>M.bad
noncomputable def zri (n:Nat) (Fs:List (List D->M D)) (fi:FE) (fs:FA):FE:=fun sd=>do
 let i<-fi sd
 let F<-zph Fs i
 let ds<-fs sd
 zaq n F ds
structure Fns (X:Cx) (n:Nat) (addrs:List Addr) (Fs:List (List D->M D)):Prop where
 len:Fs.length=addrs.length
 ok: ∀ (m:Nat) (F:List D->M D) (a:Addr),Fs[m]? = some F->addrs[m]? = some a-> ∃ k fd ps,zbw X.prog X.w X.K X.mg X.base (CXE X.prog X.w) k a fd ps (spE X.K n F)/\zcO k X.A/\W.keepIn X.K (.ref a)=true/\zaN X.K fd ps []
theorem Fns.nil {X:Cx} {n:Nat}:Fns X n [] []:=⟨rfl,fun m F a h=>by simp at h⟩
theorem Fns.cons {X:Cx} {n k:Nat} {a:Addr} {F:List D->M D} {addrs:List Addr} {Fs:List (List D->M D)} {fd:FuncData} {ps:List Str} (G:zbw X.prog X.w X.K X.mg X.base (CXE X.prog X.w) k a fd ps (spE X.K n F)) (hr:zcO k X.A) (hk:W.keepIn X.K (.ref a)=true) (hb:zaN X.K fd ps []) (h:Fns X n addrs Fs):Fns X n (a::addrs) (F::Fs):=by
 refine ⟨by simp [h.len],fun m F' a' h1 h2=> ?_⟩
 cases m with
 | zero=>simp at h1 h2;subst h1 h2;exact ⟨k,fd,ps,G,hr,hk,hb⟩
 | succ m=>simp at h1 h2;exact h.ok m F' a' h1 h2
section
variable {X:Cx} {E:XE} {e ix:Expr} {es fes:List Expr} {pos p q3 q4:Pos} {fi:FE} {fs:FA} {x:Str}
end
end L3
namespace L2
open PySem PySem.Spec PyProof.Rows
section
variable {X:Cx} {tg:Expr}
theorem zdP (hc:X.calm=true):zaD X (.type "list") (fun xs H Q=> ∃ (p:Addr) (j:Int),xs=[.ref p]/\H p=some (.rng 0 j)/\0<=j/\j<1000/\ ∀ l,H l=none->Q (.ref l) (upd H l (.lst (((List.range j.toNat).map fun (k:Nat)=>(k:Int)).map V.int)))):=by
 intro pins s σ H xs us Q I r h
 obtain ⟨p,j,rfl,hp,h0,h1,q⟩:=h
 obtain ⟨u,rfl,rx⟩:=zcI r
 cases rx
 obtain ⟨t,u',v,hr⟩:=(show zbb X.prog X.w H s.heap p (.rng 0 j) from I.hok p _ hp)
 refine call_list_range (I.ok.hd hc) hr (small_one (by omega) (by omega) (by omega) (by omega)) (zhl h0) (by omega) fun h' tk acc c' hk hS hacc=> ?_
 have hl:acc.toList.length=j.toNat:=by rw [qas];exact hacc.1
 have I2:=I.laid (t':=tk) (h':=h') (a:=s.heap.objs.size) (o:= .lst (((List.range j.toNat).map fun (k:Nat)=>(k:Int)).map V.int)) hk (qaV _)
  (show zbb X.prog X.w _ h' _ (.lst _) from ⟨by rw [qaH,qaH,List.length_range];exact qaS (show j.toNat<=1000 by omega) (by decide),acc.toList,c',zce _ _ (by rw [qaH,List.length_range,hl]) (fun k w e=> ?_),by simpa using hS⟩)
 ·exact ⟨.ref s.heap.objs.size,_,I2,rfl,q _ (I.hok.fresh (qaV _))⟩
 ·have hk':k<j.toNat:=by rw [<- hl];exact (qac.mp e).1
  obtain ⟨t,et⟩:=hacc.2 k w (by simpa using e)
  refine ⟨t,?_⟩
  rw [et]
  simp [hk']
end
end L2
namespace L3
open PySem PySem.Spec PyProof.Rows L2
section
variable {X:Cx} {E:XE} {e o:Expr} {f fo fe:FE} {pos apos cpos:Pos}
noncomputable def zha:D->M D
 | .int j=>if 0<=j/\j<1000 then zc2 (zcP 0 j.toNat) else M.bad
 | _=>M.bad
theorem zlg {p1 p2 pos pos2:Pos} (hc:X.calm=true) (hm1:X.mg "list"=none) (hm2:X.mg "range"=none) (he:SE X E e f) (hg1:Gl X "list":=by rfl) (hg2:Gl X "range":=by rfl)
  (h1:starEach [.Call (.Name "range" p2) [e] [] pos2] X.env=[(false,eval (.Call (.Name "range" p2) [e] [] pos2) X.env)]:=by rfl) (h2:starEach [e] X.env=[(false,eval e X.env)]:=by rfl):
  SE X E (.Call (.Name "list" p1) [.Call (.Name "range" p2) [e] [] pos2] [] pos) (cUn zha f):=by
 refine PE.imp (za3 (zdP hc) hg1 hm1 PyProof.Rows.boot_list (zaE (za3 zcY hg2 hm2 boot_range (zaE he za8 h2) (he:=h2)) za8 h1) (he:=h1)) fun σ H Q ⟨ι,h,sd,L,hh,q⟩=>⟨ι,h,sd,L,hh,Fin.bind q fun d h1 ι1 H1 e1 s1 hr1 q1 v rv=> ?_⟩
 cases d with
 | int j=>
  simp only [Rel] at rv
  obtain ⟨⟨c1,c2⟩,q2⟩:=Fin.guard q1
  refine ⟨j,by rw [rv],fun p hp=> ?_⟩
  have hr2:zaQ X.K ι1 (upd H1 p (.rng 0 j)) h1:=hr1.laid hp
  exact ⟨p,j,rfl,zax,c1,c2,fun l hl=>zsj hr2 zfm (Fin.step (hr1.laidS hp) q2) hl⟩
 | _=>exact qa0 q1
noncomputable def zdh:D->M D
 | .int j=>if 0<=j/\j<1000 then pure (.lst (zcP 0 j.toNat)) else M.bad
 | _=>M.bad
theorem zgt {p1 p2 pos pos2:Pos} (hc:X.calm=true) (hm1:X.mg "list"=none) (hm2:X.mg "range"=none) (he:SE X E e f) (hg1:Gl X "list":=by rfl) (hg2:Gl X "range":=by rfl)
  (h1:starEach [.Call (.Name "range" p2) [e] [] pos2] X.env=[(false,eval (.Call (.Name "range" p2) [e] [] pos2) X.env)]:=by rfl) (h2:starEach [e] X.env=[(false,eval e X.env)]:=by rfl):
  SE X E (.Call (.Name "list" p1) [.Call (.Name "range" p2) [e] [] pos2] [] pos) (cUn zdh f):=by
 refine PE.imp (za3 (zdP hc) hg1 hm1 PyProof.Rows.boot_list (zaE (za3 zcY hg2 hm2 boot_range (zaE he za8 h2) (he:=h2)) za8 h1) (he:=h1)) fun σ H Q ⟨ι,h,sd,L,hh,q⟩=>⟨ι,h,sd,L,hh,Fin.bind q fun d h1 ι1 H1 e1 s1 hr1 q1 v rv=> ?_⟩
 cases d with
 | int j=>
  simp only [Rel] at rv
  obtain ⟨⟨c1,c2⟩,q2⟩:=Fin.guard q1
  refine ⟨j,by rw [rv],fun p hp=> ?_⟩
  have hr2:zaQ X.K ι1 (upd H1 p (.rng 0 j)) h1:=hr1.laid hp
  exact ⟨p,j,rfl,zax,c1,c2,fun l hl=>zmM hr2 zfm (Fin.step (hr1.laidS hp) q2) hl⟩
 | _=>exact qa0 q1
noncomputable def zef (x y:D):M D:=match x,y with
 | .cel n,.int i=>do
  let ds<-zaf n
  if 0<=i/\i<1000 then
   match ds[i.toNat]? with
   | some d=>do za2 n (ds.eraseIdx i.toNat);pure d
   | none=>M.bad
  else M.bad
 | _,_=>M.bad
noncomputable def zrp (fo fe:FE):FE:=fun sd=>do
 let x<-fo sd
 zcl x
 let y<-fe sd
 zef x y
theorem zam.eraseIdx {K:W.Frag} {ι:Io} {H:Hp}: ∀ {ds:List D} {vs:List V} (i:Nat),zam K ι H ds vs->zam K ι H (ds.eraseIdx i) (vs.eraseIdx i)
 | [],vs,i,h=>by
  simp only [zam] at h
  subst h
  simpa using zam.nil
 | x::r,vs,i,h=>by
  simp only [zam] at h
  obtain ⟨v,vs',rfl,rv,rl⟩:=h
  cases i with
  | zero=>simpa using rl
  | succ i=>exact zam.cons rv (zam.eraseIdx i rl)
theorem zrZ (ho:SE X E o fo) (he:SE X E e fe)
  (hbase:attributeBase o "pop" X.env (eval o X.env)=eval o X.env:=by rfl)
  (hfew:((backTo cpos (starEach [e] X.env)).all (fun x=> !x.1) && (backToKw cpos (keywordEach [] X.env)).all (fun x=>x.1.isSome)
    && decide (([e]:List Expr).length+([]:List Keyword).length+(if ([]:List Keyword).isEmpty then 0 else 1)<30))=true:=by rfl)
  (hline:(apos.endLine==cpos.line)=true:=by rfl) (hs:starEach [e] X.env=(false,eval e X.env)::starEach [] X.env:=by rfl) (hplain:(backTo cpos (starEach [] X.env)).any (·.1)=false:=by rfl):
  SE X E (.Call (.Attribute o "pop" apos) [e] [] cpos) (zrp fo fe):=by
 refine PE.imp (zjv PySem.F.plainAttrs_list PySem.F.slot_list_pop PySem.F.type_list_pop zlE ho (zaE he za8 hs) hbase hfew hline hs hplain) fun σ H Q ⟨ι,h,sd,L,hh,q⟩=>⟨ι,h,sd,L,hh,Fin.bind q fun d h1 ι1 H1 e1 s1 hr1 q1 v rv=> ?_⟩
 cases d with
 | cel n=>
  have q2:Fin X.K E ι1 H1 ((zaf n>>=fun _=>fe sd>>=fun y=>zef (.cel n) y) h1) (fun d ι' H'=> ∀ v,Rel X.K ι' H' d v->Q v H'):=by
   have ee:(zcl (.cel n)>>=fun _=>fe sd>>=fun y=>zef (.cel n) y:M D)=(zaf n>>=fun _=>fe sd>>=fun y=>zef (.cel n) y):=by
    show ((zaf n>>=fun _=>pure ())>>=fun _=>fe sd>>=fun y=>zef (.cel n) y)=_
    simp only [bind_assoc,pure_bind]
   rw [<- ee]
   exact q1
  obtain ⟨ds,e2,q3⟩:=zdK q2
  obtain ⟨a,vs,rfl,hn,hH,rl⟩:=hr1.read rv e2
  refine ⟨.inl ⟨rfl,vs,SqL.of hH⟩,ι1,h1,sd,L.step s1,hr1,Fin.bind q3 fun y h3 ι3 H3 e3 s3 hr3 q4 w rw'=> ?_⟩
  have rv3:=rv.step s3
  cases y with
  | int i=>
   have q5:Fin X.K E ι3 H3 ((zaf n>>=fun ds=>if 0<=i/\i<1000 then (match ds[i.toNat]? with | some d=>(za2 n (ds.eraseIdx i.toNat)>>=fun _=>pure d:M D) | none=>M.bad) else M.bad) h3) (fun d ι' H'=> ∀ v,Rel X.K ι' H' d v->Q v H'):=q4
   obtain ⟨ds3,e4,q6⟩:=zdK q5
   obtain ⟨a3,vs3,ea,hn3,hH3,rl3⟩:=hr3.read rv3 e4
   cases ea
   simp only [Rel] at rw'
   by_cases hi:0<=i/\i<1000
   ·rw [qa4 hi] at q6
    cases ed:ds3[i.toNat]? with
    | none=>rw [ed] at q6;exact qa0 q6
    | some d=>
     rw [ed] at q6
     obtain ⟨y,ey,ry⟩:=zam.get rl3 ed
     have hlt:=(qac.mp ey).1
     refine ⟨a,vs3,i,i.toNat,y,rfl,by rw [rw'],hH3,by omega,by omega,?_,ey,?_⟩
     ·exact PySem.StrLaws.seqIndex_nonneg hi.1 (by omega)
     ·have q8:Fin X.K E ι3 H3 (R.ok d (h3.set n (.lst (ds3.eraseIdx i.toNat)))) (fun d ι' H'=> ∀ v,Rel X.K ι' H' d v->Q v H'):=q6
      exact q8 ι3 _ (hr3.cellS hn3) (hr3.cell hn3 (zam.eraseIdx _ rl3)) _ (ry.step (hr3.cellS hn3))
   ·rw [qa5 hi] at q6
    exact qa0 q6
  | _=>exact qa0 q4
 | _=>exact qa0 q1
end
end L3
namespace L3
open PySem
open Sem (wp)
open AutoSeq1 (wpAny_loadPart')
section
variable {prog:Program} {w:World} {A:Around} {E:Value->Shared->Prop} {s:Shared}
theorem zdJ {it l:Addr} {i:Nat} {items:Array Value} {x:Value} {Q:Value->Shared->Prop} (hit:s.heap.IsTupleIter it l i) (hl:s.heap.IsTuple l items) (hx:items[i]? = some x)
  (hQ: ∀ h',h'.IsTupleIter it l (i+1)->Heap.SameBut it s.heap h'->Q x {s with heap:=h'}):wpAny (model prog w) A (Builtin.SmallTypes.nextOf (.ref it)) Q E s:=by
 obtain ⟨o,ho,hc,hd⟩:=id hit
 obtain ⟨ol,hol,_,nl,hdl⟩:=hl
 unfold Builtin.SmallTypes.nextOf
 refine qaW (wpAny_callSpecial?_slot (name:=Str.ofString "__next__") hit.typeIs F.slot_tuple_iterator_next
   (wpAny_call_entry F.slot_tuple_iterator_next hit.typeIs F.entry_tuple_iterator_next ?_ (F.args_tuple_iterator_next_1 _)))
 show wpAny _ _ (field (.ref it) 0>>=_) _ _ s
 refine qaW (wpAny_field ho hd (x:= .ref l) rfl ?_)
 show wpAny _ _ (if (Value.ref l==Value.none)=true then _ else _) _ _ s
 rw [qa5 (show ¬((Value.ref l==Value.none)=true) from Bool.false_ne_true)]
 show wpAny _ _ (field (.ref it) 1>>=_) _ _ s
 refine qaW (wpAny_field ho hd (x:= .int i 0) rfl ?_)
 show wpAny _ _ (seqItems? (.ref l)>>=_) _ _ s
 refine qaW (wpAny_seqItems hol hdl ?_)
 simp only [qaB,hx]
 refine qaW (wpAny_setField ho hd (by simp) (qaX ⟨x,rfl,qaX (hQ _ ?_ (Heap.SameBut.update ..))⟩))
 exact ⟨_,qal _ ho (Obj.isFreed_of_fields (Obj.data_mapFields hd _)),(Obj.cls_mapFields ..).trans hc,by
   rw [Obj.data_mapFields hd];simp [rawInt]⟩
theorem zdY {it l:Addr} {i:Nat} {items:Array Value} {Q:Value->Shared->Prop} (hh:zkp A s.heap) (hit:s.heap.IsTupleIter it l i) (hl:s.heap.IsTuple l items) (hx:items[i]? = none)
  (hE: ∀ h' e,Heap.ExtBut it s.heap h'->(∃ o,h'.get? e=some o/\o.cls= .type "StopIteration")->E (.ref e) {s with heap:=h'}):wpAny (model prog w) A (Builtin.SmallTypes.nextOf (.ref it)) Q E s:=by
 obtain ⟨o,h1,h2,h3⟩:=id hit
 obtain ⟨ol,l1,_,nl,l2⟩:=hl
 unfold Builtin.SmallTypes.nextOf
 refine qaW (wpAny_callSpecial?_slot (name:=Str.ofString "__next__") hit.typeIs F.slot_tuple_iterator_next
   (wpAny_call_entry F.slot_tuple_iterator_next hit.typeIs F.entry_tuple_iterator_next ?_ (F.args_tuple_iterator_next_1 _)))
 show wpAny _ _ (field (.ref it) 0>>=_) _ _ s
 refine qaW (wpAny_field h1 h3 (x:= .ref l) rfl ?_)
 show wpAny _ _ (if (Value.ref l==Value.none)=true then _ else _) _ _ s
 rw [qa5 (show ¬(Value.ref l==Value.none)=true from nofun)]
 show wpAny _ _ (field (.ref it) 1>>=_) _ _ s
 refine qaW (wpAny_field h1 h3 (x:= .int i 0) rfl ?_)
 show wpAny _ _ (seqItems? (.ref l)>>=_) _ _ s
 refine qaW (wpAny_seqItems l1 l2 ?_)
 simp only [qaB,hx]
 refine qaW (wpAny_rule (qaW (wpAny_setField h1 h3 (by simp) ?_)))
 show wpAny _ _ (newExc (.type "StopIteration") []>>=_) _ _ _
 refine qaW ?_
 simp only [newExc,newTuple]
 refine qaW (qaC ?_ (by size_fits))
 refine qaW (m:=firstArgMember _ _) (wpAny_of_eq (a:=Value.none) (by first | rfl | (simp only [firstArgMember];rfl)) ?_)
 refine qaC ?_ (by size_fits)
 rcases hh with hh | ⟨ha,cls,head,hh,hX⟩
 ·simp only [raiseNew]
  refine qaW (wpAny_handled ?_)
  first | rw [show A.in1.handled=none from hh] | rw [hh]
  refine qaW (qaX (wpAny_throw ?_))
  exact hE _ _ (((Heap.SameBut.update ..).extBut.push _).push _) ⟨_,qar _ rfl,rfl⟩
 have nit:ha≠it:=fun z=>by
  subst z
  obtain ⟨ob,vs,x1,_,_,x4,x5,x6⟩:=hX
  rw [h1] at x1
  cases x1
  rw [h3] at x4
  cases x4
  simp at x5
 have hX1:zgN (s.heap.update it (Obj.mapFields (·.setIfInBounds 0 Value.none))) ha cls head:=by
  obtain ⟨ob,vs,x1,x2⟩:=hX
  exact ⟨ob,vs,(qah _ _ (Ne.symm nit)).trans x1,x2⟩
 obtain ⟨ob,vs,x1,x2⟩:=hX1
 have y1:=qag {cls:= .type "tuple",dict:=none,data:= .seq [].toArray} x1
 refine zcC (h:=ha) (cls:=cls) (head:=head) hh ⟨ob,vs,qag _ y1,x2⟩ (qar _ rfl) rfl (by simp;omega) (qaR (qaQ y1)) ?_
 refine hE _ _ (fun b o hb z=> ?_) ⟨_,qal _ (qar _ rfl) rfl,rfl⟩
 have z1:(s.heap.update it (Obj.mapFields (·.setIfInBounds 0 Value.none))).get? b=some o:=(qah _ _ (Ne.symm hb)).trans z
 have z2:=qag {cls:= .type "tuple",dict:=none,data:= .seq [].toArray} z1
 rw [qah _ _ (Nat.ne_of_gt (qaQ z2))]
 exact qag _ z2
end
noncomputable def zb3 (A:Around):List Addr:=match A.handled with
 | some (.ref a)=>[a]
 | _=>[]
theorem zkp.keep {A:Around} {h h':Heap} (x:zkp A h) (k: ∀ b∈zb3 A, ∀ o,h.get? b=some o->h'.get? b=some o):zkp A h':=by
 rcases x with x | ⟨a,cls,head,x1,ob,vs,x2,x3⟩
 ·exact .inl x
 ·exact .inr ⟨a,cls,head,x1,ob,vs,k a (by unfold zb3;rw [x1];simp) _ x2,x3⟩
theorem zex {prog:Program} {w:World} {A:Around} (it l:Addr) (hne:l≠it) (items:Array Value):
  Draws prog w A.in1 it (it::l::zb3 A) items.size (fun i v=>items[i]? = some v) (fun i h=>h.IsTupleIter it l i/\h.IsTuple l items/\zkp A h/\it∉zb3 A) where
 live:=fun _ _ st=>let ⟨o,ho,_⟩:=st.1;⟨o,ho⟩
 frame:=fun _ _ _ st hk=>⟨st.1.at fun o e=>hk it (by simp) o e,st.2.1.at fun o e=>hk l (by simp) o e,st.2.2.1.keep fun b hb o e=>hk b (by simp [hb]) o e,st.2.2.2⟩
 item:=fun i s Q E hi st hQ=>by
  refine zdJ st.1 st.2.1 (x:=items[i]) (by simp [hi]) fun h' hit' hs'=> ?_
  exact hQ _ h' s.toks (by simp [hi]) ⟨hit',st.2.1.extBut hs'.extBut hne,st.2.2.1.keep fun b hb o e=>(hs'.2 b fun z=>st.2.2.2 (z▸hb)).trans e,st.2.2.2⟩ hs'
 done:=fun s Q E st hE=>zdY (A:=A.in1) st.2.2.1 st.1 st.2.1 (by simp) hE
theorem zcH (l:Addr) (items:Array Value) (n:Nat) (dct:Option Addr) (sl:Array (Option Value)):
  Meets (Builtin.«enumerate.__new__» ⟨[.type "enumerate",.ref l],[]⟩) (fun _ R s=>s.heap.get? l=some {cls:= .type "tuple",dict:=dct,data:= .seq items n,slots:=sl}/\
    R (.ok (.ret (.ref (s.heap.push {cls:= .type "tuple_iterator",data:= .fields #[.ref l,.int 0 0]}).objs.size)))
      {s with heap:=(s.heap.push {cls:= .type "tuple_iterator",data:= .fields #[.ref l,.int 0 0]}).push {cls:= .type "enumerate",data:= .fields #[.none,.bool false,.ref s.heap.objs.size,rawInt 0,.none,.none]}}):=
 .of_wp fun prog w A R s h=>by
  obtain ⟨hp,g,d,tk,os⟩:=s;obtain ⟨hl,h⟩:=h
  have hsub:=sub_enumerate
  have hL:Heap.IsTuple (Shared.heap ⟨hp,g,d,tk,os⟩) l items:=⟨_,hl,rfl,n,rfl⟩
  wp_walk using wpAny_loadPart' hl
  refine wpAny_stack_any fun st=>qaX ?_
  split
  ·rename_i c _ _ _ _ _
   cases (c==Value.type "enumerate")
   ·wp_walk using wpAny_loadPart' hl,wpAny_pyIter_tuple hL
    exact ⟨_,rfl,h⟩
   ·wp_walk using wpAny_loadPart' hl,wpAny_pyIter_tuple hL
    exact ⟨_,rfl,h⟩
  ·wp_walk using wpAny_loadPart' hl,wpAny_pyIter_tuple hL
   exact ⟨_,rfl,h⟩
end L3
namespace L3
open PySem
section
variable {prog:Program} {w:World} {A:Around} {E:Value->Shared->Prop} {s:Shared}
theorem zcK {l:Addr} {items:Array Value} {Q:Value->Shared->Prop} (hL:s.heap.IsTuple l items)
  (h: ∀ h',IsEnum h' (s.heap.objs.size+1) s.heap.objs.size 0 .none->h'.IsTupleIter s.heap.objs.size l 0->h'.objs.size=s.heap.objs.size+2->
    (∀ b o,s.heap.get? b=some o->h'.get? b=some o)->Q (.ref (s.heap.objs.size+1)) {s with heap:=h'}):
  wpAny (model prog w) A (call (.type "enumerate") [.ref l]) Q E s:=by
 obtain ⟨⟨c,dct,dt,sl⟩,hl,hc,n,hd⟩:=hL
 replace hc:c= .type "tuple":=hc
 replace hd:dt= .seq items n:=hd
 subst hc hd
 refine callType_new F.called_enumerate (by decide) (F.typeCall_enumerate_1 _) (F.newCall_enumerate_1 _) (fun obj=>F.args_object_init_2 obj _) F.entry_enumerate_new
  (zcH l items n dct sl) ⟨hl,?_⟩
 have hz:(s.heap.push {cls:= .type "tuple_iterator",data:= .fields #[.ref l,.int 0 0]}).objs.size=s.heap.objs.size+1:=qaL ..
 show _/\_
 rw [hz]
 have he:IsEnum ((s.heap.push {cls:= .type "tuple_iterator",data:= .fields #[.ref l,.int 0 0]}).push
     {cls:= .type "enumerate",data:= .fields #[.none,.bool false,.ref s.heap.objs.size,rawInt 0,.none,.none]}) (s.heap.objs.size+1) s.heap.objs.size 0 .none:=by
  have:=qar (s.heap.push {cls:= .type "tuple_iterator",data:= .fields #[.ref l,.int 0 0]})
   (o:={cls:= .type "enumerate",data:= .fields #[.none,.bool false,.ref s.heap.objs.size,rawInt 0,.none,.none]}) rfl
  rw [hz] at this;exact this
 exact ⟨⟨_,he,rfl⟩,h _ he ⟨_,qag _ (qar _ rfl),rfl,rfl⟩ (by rw [qaL,hz]) fun b o x=>qag _ (qag _ x)⟩
end
end L3
namespace L2
open PySem PySem.Spec PyProof.Rows
section
variable {X:Cx} {pins:List (Addr×Obj)} {σ:St} {H:Hp} {s:Shared} {h':Heap}
theorem Inv.turned2 {t':Nat} {e it:Addr} (I:Inv X pins σ H s) (k: ∀ b o,b≠e->b≠it->s.heap.get? b=some o->h'.get? b=some o) (f:zhG X pins H e) (g:zhG X pins H it):Inv X pins σ H {s with heap:=h',toks:=t'}:=by
 obtain ⟨f0,f1,f2,f3,f4,f5⟩:=f
 obtain ⟨g0,g1,g2,g3,g4,g5⟩:=g
 have ne: ∀ b u,H b=some u->b≠e:=fun b u q z=>by rw [z,f0] at q;cases q
 have nit: ∀ b u,H b=some u->b≠it:=fun b u q z=>by rw [z,g0] at q;cases q
 have kk: ∀ b o,b∉[e,it]->s.heap.get? b=some o->h'.get? b=some o:=fun b o hb q=>k b o (fun z=>hb (by simp [z])) (fun z=>hb (by simp [z])) q
 refine I.step (g':=s.gens) (d':=s.drawn) (ch:=[e,it]) (fun b hb=> ?_) (fun b o _ _ hc q _=>kk b o hc q) (fun b o _ _ hc q _=>⟨o.slots,kk b o hc q⟩) (fun _ _ _ _ n=>n)
  (fun b o hc q=>⟨o,kk b o hc q⟩) (fun _ _ q=>q) (fun _ _ _ q=>q) (fun b ps q=>⟨#[],by rw [q];simp⟩) (fun m hm=> ?_) (fun b u q=> ?_) I.bare
 ·have z:b=e\/b=it:=by simpa using hb
  rcases z with rfl | rfl
  ·exact ⟨f3,f1,f4,f5⟩
  ·exact ⟨g3,g1,g4,g5⟩
 ·obtain ⟨o,es,ep,ho,r⟩:=hm
  exact ⟨o,es,ep,k _ o (Ne.symm f1) (Ne.symm g1) ho,r⟩
 ·refine (I.hok b u q).stay (fun c v hc q'=> ?_) (fun _ q=>q) fun _ _ q=>q
  rcases hc with z | z
  ·rw [z];exact k b v (ne b u q) (nit b u q) (by rw [<- z];exact q')
  ·exact k c v (ne c _ z) (nit c _ z) q'
end
noncomputable def Ite (K:W.Frag) (a:Addr):It:=
 ⟨fun i H=> ∃ xs x,SqT K H a xs/\xs[i]? = some x,fun i H x H'=> ∃ T y,H T=none/\H'=upd H T (.tup [.int i,y])/\x= .ref T/\ ∀ xs,SqT K H a xs->xs[i]? = some y,fun i H=> ∃ xs,SqT K H a xs/\xs.length=i⟩
theorem zjW {P:Program} {w:World} {K:W.Frag} {elts:List Expr} {k:Nat} {pos:Pos} (a e it:Addr) (hei:e≠it):zow P w K (.Tuple elts k pos) (Ite K a) [e,it] e (fun i h=>(∃ old,IsEnum h e it i old)/\h.IsTupleIter it a i) where
 mem:=by simp
 obj:=fun i h st b hb=>by
  obtain ⟨⟨old,he⟩,o,ho,hc,hd⟩:=st
  have z:b=e\/b=it:=by simpa using hb
  rcases z with rfl | rfl
  ·exact ⟨_,he,fun v z=>by cases z⟩
  ·exact ⟨o,ho,fun v z=>by rw [hd] at z;cases z⟩
 keep:=fun i h h' st k=>⟨let ⟨old,he⟩:=st.1;⟨old,k e (by simp) _ he⟩,st.2.at fun o q=>k it (by simp) o q⟩
 item:=by
  intro X hP hw hK i pins s σ H E I hf st hg
  subst hP hw hK
  obtain ⟨xs,y,hq,hx⟩:=hg
  obtain ⟨its,rv,p,hz⟩:=I.tuple hq
  obtain ⟨u,hu,ru⟩:=rv.get hx
  obtain ⟨⟨old,he⟩,hit⟩:=st
  have hfe:=hf e (by simp)
  have hfi:=hf it (by simp)
  obtain ⟨ot,ht,hct,nt,hdt⟩:=(show s.heap.IsTuple a its.toArray from p)
  obtain ⟨oi,hi,hci,hdi⟩:=id hit
  have hai:a≠it:=fun z=>by
   subst z
   rw [ht] at hi
   cases hi
   rw [hdt] at hdi
   cases hdi
  have hea:e≠a:=fun z=>by
   subst z
   have he':s.heap.get? e=_:=he
   rw [ht] at he'
   cases he'
   cases hdt
  have hin:it∉L3.zb3 X.A:=fun z=>by
   rcases I.hand with q | ⟨ha,cls,head,q,ob,vs,x1,_,_,x4,x5,_⟩
   ·unfold L3.zb3 at z;rw [q] at z;simp at z
   ·unfold L3.zb3 at z
    rw [q] at z
    have:it=ha:=by simpa using z
    subst this
    rw [hi] at x1
    cases x1
    rw [hdi] at x4
    cases x4
    simp at x5
  have hen:e∉L3.zb3 X.A:=fun z=>by
   rcases I.hand with q | ⟨ha,cls,head,q,ob,vs,x1,_,_,x4,x5,_⟩
   ·unfold L3.zb3 at z;rw [q] at z;simp at z
   ·unfold L3.zb3 at z
    rw [q] at z
    have:e=ha:=by simpa using z
    subst this
    have he':s.heap.get? e=_:=he
    rw [x1] at he'
    cases he'
    cases x4
    simp at x5
  have hlt:i<its.toArray.size:=by
   have:=(qac.mp hu).1
   simpa using this
  refine wpAny_pyNext_enum_itemD (L3.zex (A:=X.A) it a hai its.toArray) he ⟨hit,p,I.hand,hin⟩ hlt hei (by simp [hei,hea,hen]) fun x h1 tk hP ho hs' hT hsz hk=> ?_
  have hxu:x=u:=by
   have:its[i]? = some x:=by simpa using hP
   rw [hu] at this
   exact (Option.some.inj this).symm
  subst hxu
  refine ⟨_,rfl,wpAny_letOwnedTupleGo_enum ho fun h2 he2 hs2=> ?_⟩
  have het:e≠s.heap.objs.size:=qaR (qaQ he)
  have hit':it≠s.heap.objs.size:=qaR (qaQ hi)
  have fresh:=I.hok.fresh (qaV s.heap.objs.size)
  have I1:Inv X pins σ (upd H s.heap.objs.size (.tup [.int i,y])) {s with heap:=s.heap.push {cls:= .type "tuple",data:= .seq #[.int i tk,x]},toks:=tk+1}:=
   I.laid (t':=tk+1) (fun b o q=>qag _ q) (qaV _) (show zbb X.prog X.w _ _ _ (.tup [.int i,y]) from ⟨by show 2<=sizeLine;decide,[.int i tk,x],.cons ⟨tk,rfl⟩ (.cons ru .nil),zh7.new _ _⟩)
  have fe:zhG X pins (upd H s.heap.objs.size (.tup [.int i,y])) e:=⟨by rw [zas het];exact hfe.1,hfe.2⟩
  have fi:zhG X pins (upd H s.heap.objs.size (.tup [.int i,y])) it:=⟨by rw [zas hit'];exact hfi.1,hfi.2⟩
  have I2:Inv X pins σ (upd H s.heap.objs.size (.tup [.int i,y])) {s with heap:=h1,toks:=tk+1}:=I1.turned2 (t':=tk+1) (h':=h1) (fun b o hb1 hb2 q=>by
    rcases Heap.get?_push_cases q with ⟨z1,z2⟩ | z
    · rw [z1,z2];exact hT
    · exact hk b o hb1 hb2 z) fe fi
  obtain ⟨f0,f1,f2,f3,f4,f5⟩:=fe
  have I3:Inv X pins σ (upd H s.heap.objs.size (.tup [.int i,y])) {s with heap:=h2,toks:=tk+1}:=I2.turned (t':=tk+1) (fun b o hb q=>(hs2.2 b hb).trans q) f0 f1 f3 f4 f5
  refine ⟨.ref s.heap.objs.size,_,I3,rfl,⟨s.heap.objs.size,y,fresh,rfl,rfl,fun ys hy=>by rw [I.tuple_inj hy hq];exact hx⟩,⟨⟨x,by simpa using he2⟩,hs'.1.at fun o q=>(hs2.2 it (Ne.symm hei)).trans q⟩,fun b hb=> ?_⟩
  have z:b=e\/b=it:=by simpa using hb
  rcases z with rfl | rfl
  ·exact f0
  ·exact fi.1
 done:=by
  intro X hP hw hK i pins s σ H E I hf st hg
  subst hP hw hK
  obtain ⟨xs,hq,hx⟩:=hg
  obtain ⟨its,rv,p,hz⟩:=I.tuple hq
  obtain ⟨⟨old,he⟩,hit⟩:=st
  have hfi:=hf it (by simp)
  obtain ⟨ot,ht,hct,nt,hdt⟩:=(show s.heap.IsTuple a its.toArray from p)
  obtain ⟨oi,hi,hci,hdi⟩:=id hit
  have hai:a≠it:=fun z=>by
   subst z
   rw [ht] at hi
   cases hi
   rw [hdt] at hdi
   cases hdi
  have hin:it∉L3.zb3 X.A:=fun z=>by
   rcases I.hand with q | ⟨ha,cls,head,q,ob,vs,x1,_,_,x4,x5,_⟩
   ·unfold L3.zb3 at z;rw [q] at z;simp at z
   ·unfold L3.zb3 at z
    rw [q] at z
    have:it=ha:=by simpa using z
    subst this
    rw [hi] at x1
    cases x1
    rw [hdi] at x4
    cases x4
    simp at x5
  have hn:its.toArray.size=i:=by
   have:=rv.length
   simp
   omega
  subst hn
  obtain ⟨f0,f1,f2,f3,f4,f5⟩:=hfi
  exact wpAny_pyNext_enum_endD (L3.zex (A:=X.A) it a hai its.toArray) he ⟨hit,p,I.hand,hin⟩ fun h' hx'=>⟨rfl,I.turned (t':=s.toks) (fun b o hb q=>hx' b o hb q) f0 f1 f3 f4 f5⟩
 self:=fun _ _ _ _ _ st h=>let ⟨⟨_,he⟩,_⟩:=st;wpAny_pyIter_enum he h
section
variable {X:Cx} {elts:List Expr} {k:Nat} {tpos:Pos}
noncomputable def zrv (K:W.Frag) (ta:TA):TI:=fun σ H R=>ta σ H fun vs H1=> ∃ a,vs=[.ref a]/\(∃ xs,SqT K H1 a xs)/\R (Ite K a) H1
theorem znC {l:Expr} {ta:TA} {p pos:Pos} (hg:Gl X "enumerate") (hm:X.mg "enumerate"=none) (ha:PA X [l] ta) (hs:starEach [l] X.env=[(false,eval l X.env)]:=by rfl):
  PI X (.Tuple elts k tpos) (.Call (.Name "enumerate" p) [l] [] pos) (zrv X.K ta):=by
 intro pins s σ H R I h
 refine Call_ (zgj I hg hm PyProof.Rows.boot_enumerate (PyProof.Rows.callWith_type1 (thn (ha pos pins s σ H _ I h) fun us s1 ⟨vs,H1,I1,r1,q1⟩=> ?_) hs rfl))
 obtain ⟨a,e,⟨xs,hq⟩,q⟩:=q1
 subst e
 cases r1 with
 | cons r rr=>
  cases rr
  cases r
  obtain ⟨its,rv,p,hz⟩:=I1.tuple hq
  refine L3.zcK (show s1.heap.IsTuple a its.toArray from p) fun h' he hit hsz kp=> ?_
  refine wpAny_pyIter_enum he ?_
  refine ⟨s1.heap.objs.size+1,[s1.heap.objs.size+1,s1.heap.objs.size],_,_,H1,rfl,I1.kept (t':=s1.toks) kp,zjW a _ _ (Nat.succ_ne_self _),⟨⟨_,he⟩,hit⟩,fun b hb=> ?_,q⟩
  have z:b=s1.heap.objs.size+1\/b=s1.heap.objs.size:=by simpa using hb
  rcases z with rfl | rfl
  ·exact I1.fpOk (Nat.le_succ _) (I1.hok.fresh (Nat.le_succ _))
  ·exact I1.fpOk (qaV _) (I1.hok.fresh (qaV _))
end
end L2
namespace L3
open PySem PySem.Spec PyProof.Rows L2
section
variable {X:Cx} {E:XE} {elts:List Expr} {k:Nat} {tpos pos:Pos}
noncomputable def zkQ (ds:List D):List D:=(List.range ds.length).map fun (i:Nat)=> .tup [.int i,ds.getD i .non]
theorem zl3 {K:W.Frag} {ι:Io} {H:Hp} {a:Addr} {vs:List V} {ds:List D} (h: ∀ ι' H',Pass ι H ι' H'->SqT K H' a vs) (rl:zam K ι H ds vs):zoA K ι H (Ite K a) (zkQ ds) where
 go:=fun ι' H' i s hi=>by
  have hi:i<ds.length:=by simpa [zkQ] using hi
  obtain ⟨v,ev,_⟩:=zam.get rl (i:=i) (d:=ds[i]) (by simp [hi])
  exact ⟨vs,v,h ι' H' s,ev⟩
 yld:=fun ι' H' _ i x H2 s hr hi ⟨T,y,hT,e,e2,hy⟩=>by
  subst e e2
  have hi:i<ds.length:=by simpa [zkQ] using hi
  obtain ⟨v,ev,rv⟩:=zam.get rl (i:=i) (d:=ds[i]) (by simp [hi])
  have ey:=hy vs (h ι' H' s)
  rw [ev] at ey
  cases ey
  refine ⟨.inr ⟨T,_,hT,rfl⟩,.tup [.int i,ds[i]],by simp [zkQ,hi],?_⟩
  obtain ⟨st,hr2⟩:=zqS.step (.inr ⟨T,[.int i,y],hT,rfl⟩) hr
  have rv2:Rel K ι' (upd H' T (.tup [.int i,y])) ds[i] y:=(rv.pass s).step st
  simp only [Rel]
  exact ⟨T,_,rfl,⟨zax,hr.nin hT⟩,zam.cons (by simp [Rel]) (zam.cons rv2 zam.nil)⟩
 stop:=fun ι' H' s=>⟨vs,h ι' H' s,by rw [<- rl.length];simp [zkQ]⟩
noncomputable def zpZ (f:FE):FA:=fun sd=>do
 let d<-f sd
 match d with
 | .tup ds=>pure (zkQ ds)
 | _=>M.bad
theorem zme {l:Expr} {f:FE} {p:Pos} (hm:X.mg "enumerate"=none) (he:SE X E l f) (hg:Gl X "enumerate":=by rfl) (hs:starEach [l] X.env=[(false,eval l X.env)]:=by rfl):SI X E (.Tuple elts k tpos) (.Call (.Name "enumerate" p) [l] [] pos) (zpZ f):=by
 refine PI.imp (znC hg hm (zaE he za8 hs) hs) fun σ H Q ⟨ι,h,sd,L,hh,q⟩=>⟨ι,h,sd,L,hh,Fin.bind q fun d h1 ι1 H1 e1 s1 hr1 q1 v rv=> ?_⟩
 cases d with
 | tup ds=>
  obtain ⟨a,vs,e,h1',h2⟩:=zjC rv
  exact ⟨a,by rw [e],⟨vs,h1' _ _ (Pass.refl _ _)⟩,Fin.out hr1 q1 _ (zl3 h1' h2)⟩
 | _=>exact qa0 q1
end
end L3
namespace L3
open PySem PyProof.Rows
section
open PySem.SeqAt
open PySem.AutoSeq1 (wpAny_loadPart')
open PySem.MeetsSeq PySem.MeetsSeq2 PySem.MeetsSeq3
section
variable {prog:Program} {w:World} {A:Around} {E:Value->Shared->Prop} {s:Shared}
end
def zjE (h:Heap) (v:Value) (p:Int×List Int):Prop:= ∃ (a q:Addr) (t:Tok) (its:List Value),v= .ref a/\IsTup h a #[.int p.1 t,.ref q]/\IsTup h q its.toArray/\IntsAre its p.2
theorem zjE.keep {h h':Heap} {v:Value} {p:Int×List Int} (k: ∀ b o,h.get? b=some o->h'.get? b=some o):zjE h v p->zjE h' v p:=fun ⟨a,q,t,its,e,⟨o,x1,x2⟩,⟨o',y1,y2⟩,z⟩=>⟨a,q,t,its,e,⟨o,k _ _ x1,x2⟩,⟨o',k _ _ y1,y2⟩,z⟩
end
end L3
namespace L3
open PySem
section
variable {prog:Program} {w:World} {A:Around} {R:Result->Shared->Prop} {I:Addr} {fp wr:List Addr} {n:Nat} {P:Nat->Value->Prop} {St:Nat->Heap->Prop} {h0:Heap}
end
section
variable {prog:Program} {w:World} {A:Around} {E:Value->Shared->Prop} {s:Shared}
end
end L3
namespace L2
open PySem PySem.Spec PyProof.Rows L3
section
variable {X:Cx}
end
end L2
namespace L3
open PySem PySem.Spec PyProof.Rows L2
section
variable {X:Cx} {E:XE}
end
section
variable {X:Cx} {E:XE}
noncomputable def zsm (d:D):M Bool:=do let ds<-zmk d;pure (!ds.isEmpty)
noncomputable def zsg (f:FE):FT:=fun sd=>do let d<-f sd;zsm d
end
end L3
section
namespace TS
set_option autoImplicit false
open PySem PyProof PyProof.Rows
noncomputable abbrev Ga:Bool->Keyed->Array Keyed->Nat->Nat->Nat->StateT SortSt Sem (Option Nat):=sortPriv% PySem.Builtin.gallop
noncomputable abbrev Lt:Keyed->Keyed->StateT SortSt Sem (Option Bool):=sortPriv% PySem.Builtin.lt
noncomputable abbrev El:Array Keyed->Nat->StateT SortSt Sem Keyed:=sortPriv% PySem.Builtin.elem
structure Cx where
 prog:Program
 w:World
 A:Around
 E:Value->Shared->Prop
 s:Shared
 kd:SortKind
 O:KeyOrd
 ky:Value->O.α
 ok:Value->Prop
 cmp: ∀ (E':Value->Shared->Prop) (x y:Value) (Q:Bool->Shared->Prop),ok x->ok y->Q (O.blt (ky x) (ky y)) s->wpAny (model prog w) A (keyLt' kd x y) Q E' s
noncomputable abbrev Cx.wp (c:Cx) {α:Type} (m:StateT SortSt Sem α) (Q:α->SortSt->Prop) (st:SortSt):Prop:=wpS (model c.prog c.w) c.A c.E c.s m Q st
noncomputable def Cx.lt (c:Cx) (x y:Keyed):Bool:=c.O.blt (c.ky x.1) (c.ky y.1)
def Cx.le (c:Cx) (x y:Keyed):Prop:=c.lt y x=false
section
variable {c:Cx}
theorem Cx.le_refl (x:Keyed):c.le x x:=c.O.irrefl _
theorem Cx.le_of_lt {x y:Keyed} (h:c.lt x y=true):c.le x y:=KeyOrd.klt_asymm (O:=c.O) h
theorem Cx.le_trans {x y z:Keyed} (h:c.le x y) (h2:c.le y z):c.le x z:=KeyOrd.kle_trans (O:=c.O) h h2
end
end TS
end
section
namespace TS
set_option autoImplicit false
open PySem PyProof PyProof.Rows
noncomputable abbrev Sg:Nat->StateT SortSt Sem Unit:=sortPriv% PySem.Builtin.setMinGallop
structure Sm (st st':SortSt):Prop where
 k:kindOf st'=kindOf st
 a:arrOf st'=arrOf st
 p:pendingOf st'=pendingOf st
 f:failedOf st'=failedOf st
theorem Sm.refl (st:SortSt):Sm st st:=⟨rfl,rfl,rfl,rfl⟩
theorem Sm.g {st st':SortSt} (h:Sm st st') (n:Nat):Sm st (SortSt.mk' (kindOf st') (arrOf st') (pendingOf st') n (failedOf st')):=⟨h.k,h.a,h.p,h.f⟩
structure Mg (r:Keyed->Keyed->Prop) (O L R T:List Keyed):Prop where
 s:O.Pairwise r
 l: ∀ x,x∈O-> ∀ y,y∈L->r x y
 r: ∀ x,x∈O-> ∀ y,y∈R->r x y
 p:(O++(L++R)).Perm T
section
variable {r:Keyed->Keyed->Prop} {O L R T X:List Keyed}
theorem Mg.symm (h:Mg r O L R T):Mg r O R L T:=⟨h.s,h.r,h.l,(List.Perm.append_left O List.perm_append_comm).trans h.p⟩
theorem Mg.fin (h:Mg r O L R T) (hs:(L++R).Pairwise r):(O++(L++R)).Pairwise r/\(O++(L++R)).Perm T:=by
 refine ⟨?_,h.p⟩
 rw [qaq]
 refine ⟨h.s,hs,fun x hx y hy=> ?_⟩
 rcases qaK.mp hy with hy | hy
 ·exact h.l x hx y hy
 ·exact h.r x hx y hy
end
section
variable {c:Cx}
def srt (c:Cx) (a:Array Keyed):Prop:=a.toList.Pairwise c.le
def okA (c:Cx) (a:Array Keyed):Prop:= ∀ x,x∈a.toList->c.ok x.1
structure MgA (c:Cx) (a b out:Array Keyed) (ia ib:Nat):Prop where
 m:Mg c.le out.toList (a.toList.drop ia) (b.toList.drop ib) (a.toList++b.toList)
 z:out.size=ia+ib
 la:ia<=a.size
 lb:ib<=b.size
def Fi (c:Cx) (a b res:Array Keyed):Prop:=srt c res/\res.toList.Perm (a.toList++b.toList)
variable {a b out:Array Keyed} {ia ib k:Nat}
theorem MgA.done (h:MgA c a b out ia ib) (ha:srt c a) (hb:srt c b) (he:ia=a.size\/ib=b.size):Fi c a b (out++a.extract ia++b.extract ib):=by
 have e:(out++a.extract ia++b.extract ib).toList=out.toList++(a.toList.drop ia++b.toList.drop ib):=by
  simp [List.extract,List.take_of_length_le]
 have hs:(a.toList.drop ia++b.toList.drop ib).Pairwise c.le:=by
  rcases he with he | he
  ·rw [List.drop_eq_nil_of_le (by simp [he]),List.nil_append]
   exact List.Pairwise.sublist (List.drop_sublist _ _) hb
  ·rw [List.drop_eq_nil_of_le (as:=b.toList) (by simp [he]),List.append_nil]
   exact List.Pairwise.sublist (List.drop_sublist _ _) ha
 obtain ⟨h1,h2⟩:=h.m.fin hs
 exact ⟨by unfold srt;rw [e];exact h1,by rw [e];exact h2⟩
theorem MgA.last (h:MgA c a b out ia ib) (_ha:srt c a) (hb:srt c b) (he:ia+1=a.size) (hl: ∀ x,a[ia]? = some x-> ∀ y,y∈b.toList->c.le y x):Fi c a b (out++b.extract ib++a.extract ia):=by
 have e:(out++b.extract ib++a.extract ia).toList=out.toList++(b.toList.drop ib++a.toList.drop ia):=by
  simp [List.extract,List.take_of_length_le]
 have ed:a.toList.drop ia=[a[ia]]:=by
  rw [qae (by simp;omega),List.drop_eq_nil_of_le (by simp;omega)]
  simp
 have hs:(b.toList.drop ib++a.toList.drop ia).Pairwise c.le:=by
  rw [ed,qaq]
  refine ⟨List.Pairwise.sublist (List.drop_sublist _ _) hb,List.pairwise_singleton _ _,?_⟩
  intro x hx y hy
  rw [List.mem_singleton.mp hy]
  exact hl _ (getElem?_pos a ia (by omega)) x (List.mem_of_mem_drop hx)
 obtain ⟨h1,h2⟩:=h.m.symm.fin hs
 exact ⟨by unfold srt;rw [e];exact h1,by rw [e];exact h2⟩
end
end TS
end
section
namespace TS
set_option autoImplicit false
open PySem PyProof PyProof.Rows
section
variable {c:Cx} {a b:Array Keyed}
theorem zi9 {α:Type} {p:Prop} [Decidable p] {x y:StateT SortSt Sem α} {Q:α->SortSt->Prop} {st:SortSt} (h1:p->c.wp x Q st) (h2: ¬p->c.wp y Q st):c.wp (if p then x else y) Q st:=by
 by_cases h:p
 ·rw [qa4 h];exact h1 h
 ·rw [qa5 h];exact h2 h
noncomputable abbrev StL:=ForInStep (Option (Array Keyed)×Array Keyed×Nat×Nat×Nat×Nat×Nat)
structure Ex (c:Cx) (a b:Array Keyed) (N:Nat) (Q:StL->SortSt->Prop) (st:SortSt):Prop where
 d1: ∀ res t,Fi c a b res->Q (.done (some res,t)) st
 d2: ∀ o i j t,MgA c a b o i j->i+1<a.size->j<b.size->N<=o.size->Q (.done (none,o,i,j,t)) st/\Q (.yield (none,o,i,j,t)) st
 hl: ∀ (o:Array Keyed) (i j:Nat),MgA c a b o i j->i+1=a.size->Fi c a b (o++b.extract j++a.extract i)
 ha:srt c a
 hb:srt c b
 oa:okA c a
 ob:okA c b
 hk:kindOf st=c.kd
section
variable {N:Nat} {Q:StL->SortSt->Prop} {st:SortSt} {o:Array Keyed} {i j g k l u v:Nat}
end
theorem zrT {β:Type} {n:Nat} {x:β} {f f':Nat->β->StateT SortSt Sem (ForInStep β)} (h: ∀ i r,f i r=f' i r):forIn [0:n] x f=forIn [0:n] x f':=by
 rw [show f=f' from funext fun i=>funext (h i)]
end
end TS
end
section
namespace TS
set_option autoImplicit false
open PySem PyProof PyProof.Rows
section
variable {c:Cx} {a b out:Array Keyed} {na nb at':Nat}
structure MgH (c:Cx) (a b out:Array Keyed) (na nb:Nat):Prop where
 m:Mg (fun x y=>c.le y x) out.toList (a.toList.take na).reverse (b.toList.take nb).reverse (a.toList++b.toList)
 z:out.size+na+nb=a.size+b.size
 la:na<=a.size
 lb:nb<=b.size
theorem zjA {l:Array Keyed} (n:Nat) (h:srt c l):((l.toList.take n).reverse).Pairwise (fun x y=>c.le y x):=by
 rw [List.pairwise_reverse]
 exact List.Pairwise.sublist (List.take_sublist _ _) h
theorem zjj {r:List Keyed} {O L R T:List Keyed} (h:Mg (fun x y=>c.le y x) O L R T) (hs:(L++R).Pairwise (fun x y=>c.le y x)) (e:r=(O++(L++R)).reverse):r.Pairwise c.le/\r.Perm T:=by
 obtain ⟨h1,h2⟩:=h.fin hs
 subst e
 exact ⟨by rw [List.pairwise_reverse];exact h1,(List.reverse_perm _).trans h2⟩
theorem MgH.done (h:MgH c a b out na nb) (ha:srt c a) (hb:srt c b) (he:na=0\/nb=0):Fi c a b (a.extract 0 na++b.extract 0 nb++out.reverse):=by
 have hs:((b.toList.take nb).reverse++(a.toList.take na).reverse).Pairwise (fun x y=>c.le y x):=by
  rcases he with he | he
  ·subst he;simpa using zjA nb hb
  ·subst he;simpa using zjA na ha
 exact zjj h.m.symm hs (by simp [List.extract])
theorem MgH.first (h:MgH c a b out na nb) (ha:srt c a) (_hb:srt c b) (he:nb=1) (hl: ∀ y,b[0]? = some y-> ∀ x,x∈a.toList->c.le y x):Fi c a b (b.extract 0 nb++a.extract 0 na++out.reverse):=by
 subst he
 have hlb:=h.lb
 have ed:b.toList.take 1=[b[0]]:=by
  obtain ⟨l⟩:=b
  cases l with
  | nil=>simp at hlb
  | cons x l=>simp
 have hs:((a.toList.take na).reverse++(b.toList.take 1).reverse).Pairwise (fun x y=>c.le y x):=by
  rw [ed,qaq]
  refine ⟨zjA na ha,List.pairwise_singleton _ _,?_⟩
  intro x hx y hy
  rw [List.mem_singleton.mp hy]
  exact hl _ (getElem?_pos b 0 (by omega)) x (List.mem_of_mem_take (List.mem_reverse.mp hx))
 exact zjj h.m hs (by simp [List.extract])
noncomputable abbrev H5:=Option (Array Keyed)×Nat×Nat×Array Keyed×Nat
noncomputable abbrev H6:=Option (Array Keyed)×Nat×Nat×Array Keyed×Nat×Nat
noncomputable abbrev H7:=Option (Array Keyed)×Nat×Nat×Array Keyed×Nat×Nat×Nat
def Hi (c:Cx) (a b:Array Keyed) (N:Nat) (p q:Nat) (o:Array Keyed):Prop:=MgH c a b o p q/\0<p/\1<q/\N<=o.size
structure Ey (c:Cx) (a b:Array Keyed) (N:Nat) (Q:ForInStep H7->SortSt->Prop) (st:SortSt):Prop where
 d1: ∀ res t,Fi c a b res->Q (.done (some res,t)) st
 d2: ∀ p q o t,Hi c a b N p q o->Q (.done (none,p,q,o,t)) st/\Q (.yield (none,p,q,o,t)) st
 hl: ∀ (o:Array Keyed) (i j:Nat),MgH c a b o i j->j=1->Fi c a b (b.extract 0 j++a.extract 0 i++o.reverse)
 ha:srt c a
 hb:srt c b
 oa:okA c a
 ob:okA c b
 hk:kindOf st=c.kd
noncomputable def U4 (a b:Array Keyed) (p q:Nat) (o:Array Keyed) (g k l:Nat):StateT SortSt Sem (ForInStep H7):=El a (p - 1)>>=fun z=>
 if (p - 1==0)=true then pure (.done (some (a.extract 0 (p - 1)++b.extract 0 q++(o.push z).reverse),p - 1,q,o.push z,g,k,l))
 else if (decide (k<7) && decide (l<7))=true then pure (.done (none,p - 1,q,o.push z,g,k,l)) else pure (.yield (none,p - 1,q,o.push z,g,k,l))
noncomputable def U3 (a b:Array Keyed) (p q:Nat) (o:Array Keyed) (g k v:Nat):StateT SortSt Sem (ForInStep H7):=El b (q - 1)>>=fun y=>
 if (q - 1==1)=true then pure (.done (some (b.extract 0 (q - 1)++a.extract 0 p++(o.push y).reverse),p,q - 1,o.push y,g,k,v))
 else El a (p - 1)>>=fun z=>Ga true z b 0 (q - 1) (q - 1 - 1)>>=fun x=>match x with
  | some l=>if q - 1 - l>0 then
    if (l==1)=true then pure (.done (some (b.extract 0 l++a.extract 0 p++(o.push y++(b.extract l (q - 1)).reverse).reverse),p,l,o.push y++(b.extract l (q - 1)).reverse,g,k,q - 1 - l))
    else if (l==0)=true then pure (.done (some (a.extract 0 p++b.extract 0 l++(o.push y++(b.extract l (q - 1)).reverse).reverse),p,l,o.push y++(b.extract l (q - 1)).reverse,g,k,q - 1 - l))
    else U4 a b p l (o.push y++(b.extract l (q - 1)).reverse) g k (q - 1 - l)
   else U4 a b p (q - 1) (o.push y) g k (q - 1 - l)
  | _=>pure (.done (some (a.extract 0 p++b.extract 0 (q - 1)++(o.push y).reverse),p,q - 1,o.push y,g,k,v))
noncomputable def U2 (a b:Array Keyed) (p q:Nat) (o:Array Keyed) (g u v:Nat):StateT SortSt Sem (ForInStep H7):=El b (q - 1)>>=fun y=>Ga false y a 0 p (p - 1)>>=fun x=>match x with
  | some k=>if p - k>0 then
    if (k==0)=true then pure (.done (some (a.extract 0 k++b.extract 0 q++(o++(a.extract k p).reverse).reverse),k,q,o++(a.extract k p).reverse,g,p - k,v))
    else U3 a b k q (o++(a.extract k p).reverse) g (p - k) v
   else U3 a b p q o g (p - k) v
  | _=>pure (.done (some (a.extract 0 p++b.extract 0 q++o.reverse),p,q,o,g,u,v))
noncomputable def Z1 (a b:Array Keyed) (g:Nat) (p q:Nat) (o:Array Keyed) (u v:Nat):StateT SortSt Sem (ForInStep H6):=El b (q - 1)>>=fun y=>El a (p - 1)>>=fun z=>Lt y z>>=fun x=>match x with
 | some w=>if w=true then El a (p - 1)>>=fun z=>if (p - 1==0)=true then pure (.done (some (a.extract 0 (p - 1)++b.extract 0 q++(o.push z).reverse),p - 1,q,o.push z,u+1,0)) else if u+1>=g then pure (.done (none,p - 1,q,o.push z,u+1,0)) else pure (.yield (none,p - 1,q,o.push z,u+1,0))
  else El b (q - 1)>>=fun y=>if (q - 1==1)=true then pure (.done (some (b.extract 0 (q - 1)++a.extract 0 p++(o.push y).reverse),p,q - 1,o.push y,0,v+1)) else if v+1>=g then pure (.done (none,p,q - 1,o.push y,0,v+1)) else pure (.yield (none,p,q - 1,o.push y,0,v+1))
 | _=>pure (.done (some (a.extract 0 p++b.extract 0 q++o.reverse),p,q,o,u,v))
noncomputable def Z2 (a b:Array Keyed) (p q:Nat) (o:Array Keyed) (g u v:Nat):StateT SortSt Sem (ForInStep H7):=
 if g>1 then Sg (g - 1)>>=fun _=>U2 a b p q o (g - 1) u v else Sg g>>=fun _=>U2 a b p q o g u v
section
variable {N:Nat} {Q:ForInStep H7->SortSt->Prop} {st:SortSt} {o:Array Keyed} {p q g k l u v:Nat}
end
end
end TS
end
section
namespace TS
set_option autoImplicit false
open PySem PyProof PyProof.Rows
structure Loc (xs ys:Array Keyed) (lo hi:Nat):Prop where
 p:ys.toList.Perm xs.toList
 o: ∀ i,i<lo\/hi<=i->ys[i]? = xs[i]?
theorem Loc.refl (xs:Array Keyed) (lo hi:Nat):Loc xs xs lo hi:=⟨List.Perm.refl _,fun _ _=>rfl⟩
theorem Loc.trans {xs ys zs:Array Keyed} {lo hi:Nat} (h:Loc xs ys lo hi) (h2:Loc ys zs lo hi):Loc xs zs lo hi:=⟨h2.p.trans h.p,fun i hi=>(h2.o i hi).trans (h.o i hi)⟩
theorem Loc.size {xs ys:Array Keyed} {lo hi:Nat} (h:Loc xs ys lo hi):ys.size=xs.size:=by simpa using h.p.length_eq
section
variable {c:Cx}
def sg (c:Cx) (xs:Array Keyed) (lo hi:Nat):Prop:= ∀ i j x y,lo<=i->i<=j->j<hi->xs[i]? = some x->xs[j]? = some y->c.le x y
end
end TS
end
section
namespace TS
set_option autoImplicit false
open PySem PyProof PyProof.Rows
noncomputable abbrev CR:Nat->Nat->StateT SortSt Sem (Option Nat):=sortPriv% PySem.Builtin.countRun
structure St (c:Cx) (a0:Array Keyed) (p0:Array (Nat×Nat×Nat)) (lo hi:Nat) (st:SortSt):Prop where
 k:kindOf st=c.kd
 f:failedOf st=none
 p:pendingOf st=p0
 l:Loc a0 (arrOf st) lo hi
section
variable {c:Cx} {a0:Array Keyed} {p0:Array (Nat×Nat×Nat)} {lo hi:Nat}
noncomputable def KV (c:Cx) (xs:Array Keyed) (i:Nat):c.O.α:=c.ky (xs[i]?.getD (.none,.none)).1
def up (c:Cx) (xs:Array Keyed) (lo hi:Nat):Prop:= ∀ i j,lo<=i->i<=j->j<hi->c.O.kle (KV c xs i) (KV c xs j)
def dn (c:Cx) (xs:Array Keyed) (lo hi:Nat):Prop:= ∀ i j,lo<=i->i<=j->j<hi->c.O.kle (KV c xs j) (KV c xs i)
def ek (c:Cx) (xs:Array Keyed) (lo hi:Nat):Prop:= ∀ i,lo<=i->i<hi->KV c xs i=KV c xs (hi - 1)
theorem St.set {st:SortSt} {xs:Array Keyed} (h:St c a0 p0 lo hi st) (hl:Loc (arrOf st) xs lo hi):St c a0 p0 lo hi (setArr st xs):=⟨h.k,h.f,h.p,h.l.trans hl⟩
theorem St.ok {st:SortSt} (h:St c a0 p0 lo hi st) (ho:okA c a0):okA c (arrOf st):=fun x hx=>ho x (h.l.p.mem_iff.mp hx)
end
end TS
end
section
namespace TS
set_option autoImplicit false
open PySem PyProof PyProof.Rows
section
variable {c:Cx}
noncomputable def chn (c:Cx) (xs:Array Keyed):List (Nat×Nat×Nat)->Nat->Nat->Prop
 | [],a,b=>a=b
 | t::r,a,b=>t.1=a/\0<t.2.1/\sg c xs a (a+t.2.1)/\chn c xs r (a+t.2.1) b
structure Rn (c:Cx) (a0:Array Keyed) (lo:Nat) (st:SortSt):Prop where
 k:kindOf st=c.kd
 f:failedOf st=none
 p:(arrOf st).toList.Perm a0.toList
 h:chn c (arrOf st) (pendingOf st).toList 0 lo
theorem Rn.size {a0:Array Keyed} {lo:Nat} {st:SortSt} (h:Rn c a0 lo st):(arrOf st).size=a0.size:=by simpa using h.p.length_eq
theorem Rn.ok {a0:Array Keyed} {lo:Nat} {st:SortSt} (h:Rn c a0 lo st) (ho:okA c a0):okA c (arrOf st):=fun x hx=>ho x (h.p.mem_iff.mp hx)
end
end TS
end
section
namespace TS
set_option autoImplicit false
open PySem PyProof PyProof.Rows
noncomputable def h6 (h:Heap) (a:Addr) (vs:List Value):Heap:=((h.update a (Obj.mapSeq fun _=> #[])).push (seqObj "tuple" vs.toArray 0)).push (seqObj "list" #[] 0)
def Srt (prog:Program) (w:World) (A:Around) (vs:List Value) (s1:Shared) (kd:SortKind) (O:KeyOrd) (ky:Value->O.α) (ok:Value->Prop):Prop:=
 (∀ v,v∈vs->ok v)/\ ∀ s2:Shared,(∀ b o,s1.heap.get? b=some o->s2.heap.get? b=some o)->
  (2<=vs.length-> ∀ (E:Value->Shared->Prop) (Q:SortKind->Shared->Prop),Q kd s2->wpAny (model prog w) A (keyKind' vs.toArray) Q E s2)/\
  ∀ (E:Value->Shared->Prop) (x y:Value) (Q:Bool->Shared->Prop),ok x->ok y->Q (O.blt (ky x) (ky y)) s2->wpAny (model prog w) A (keyLt' kd x y) Q E s2
end TS
end
namespace TS
set_option autoImplicit false
open PySem PyProof PyProof.Rows PySem.SeqAt
open PySem.MeetsSeq PySem.MeetsSeq2 PySem.MeetsSeq3
inductive Rs (A:Around) (s:Shared) (b:Bool):List ((Value×Value)×Nat)->Bool->Bool->Prop
 | nil (d:Bool):Rs A s b [] d d
 | eq {p q:Value} {i:Nat} {rest:List ((Value×Value)×Nat)} {d r:Bool} (h:EqAt A s p q true) (t:Rs A s b rest d r):Rs A s b (((p,q),i)::rest) d r
 | ne {p q:Value} {i:Nat} {rest:List ((Value×Value)×Nat)} {d l:Bool} (h:EqAt A s p q false) (t: ∀ (prog:Program) (w:World) (E:Value->Shared->Prop) (Q:Bool->Shared->Prop),Q l s->wpAny (model prog w) A (oneLt' (b && i==0) p q) Q E s):Rs A s b (((p,q),i)::rest) d l
section
variable {prog:Program} {w:World} {A:Around} {s:Shared}
def znQ (h:Heap) (v:Value) (ns:List Int):Prop:= ∃ (a:Addr) (its:List Value),v= .ref a/\IsTup h a its.toArray/\IntsAre its ns
end
end TS
namespace TS
set_option autoImplicit false
open PySem PyProof PyProof.Rows PySem.SeqAt
def zhS (h:Heap) (v:Value):Prop:= ∃ (a:Addr) (xs:Array Value) (n:Int) (t:Tok),v= .ref a/\IsTup h a xs/\xs[0]? = some (.int n t)
section
variable {prog:Program} {w:World} {A:Around} {s:Shared}
theorem zk0 {v:Value} (h:zhS s.heap v) {E:Value->Shared->Prop}:wpAny (model prog w) A (firstOfTuple' v) (fun r s'=>s'=s/\ ∃ n t,r=some (.int n t)) E s:=by
 obtain ⟨a,xs,n,t,rfl,⟨o,e1,e2,m,d⟩,hx⟩:=h
 refine qaW (wpAny_typeOf (T:="tuple") ⟨o,e1,e2⟩ ?_)
 have:(Value.type "tuple" != Value.type "tuple")=false:=by rfl
 rw [this]
 refine qaW (listItems_at e1 d (qaX ⟨rfl,n,t,hx⟩))
theorem zfQ {E:Value->Shared->Prop}: ∀ (vs:List Value),(∀ v,v∈vs->zhS s.heap v)->wpAny (model prog w) A (vs.mapM firstOfTuple') (fun r s'=>s'=s/\ ∃ us ns,IntsAre us ns/\r=us.map some/\us.length=vs.length) E s
 | [],_=>by rw [List.mapM_nil];exact qaX ⟨rfl,[],[],.nil,rfl,rfl⟩
 | v::vs,h=>by
  rw [List.mapM_cons]
  refine qaW (qaZ (zk0 (h v (qau ..))) ?_ fun _ _ e=>e)
  rintro r s' ⟨es,n,t,rfl⟩
  rw [es]
  refine qaW (qaZ (zfQ vs fun u hu=>h u (qan _ hu)) ?_ fun _ _ e=>e)
  rintro r s' ⟨es,us,ns,h1,rfl,h3⟩
  rw [es]
  exact qaX ⟨rfl,.int n t::us,n::ns,.cons n t h1,rfl,by simp [h3]⟩
theorem zn2 {vs:List Value} (h: ∀ v,v∈vs->zhS s.heap v) (h0:2<=vs.length) {E:Value->Shared->Prop} {Q:SortKind->Shared->Prop} (hq:Q (tuples' true) s):wpAny (model prog w) A (keyKind' vs.toArray) Q E s:=by
 rw [keyKind'_eq,List.mapM_toArray,map_eq_pure_bind,bind_assoc]
 refine qaW (qaZ (zfQ vs h) ?_ fun _ _ e=>e)
 rintro r s' ⟨rfl,us,ns,h1,rfl,h3⟩
 rw [pure_bind]
 rw [qa4 (by simp)]
 refine qaW (wpAny_rule ?_)
 have e1:Array.filterMap id (us.map some).toArray=us.toArray:=by simp
 rw [e1,oneTypeOnly'_eq,List.mapM_toArray,mapM_typeOf_ints h1]
 simp only [map_pure,pure_bind]
 obtain ⟨u,us',rfl⟩: ∃ u us',us=u::us':=by
  cases us with
  | nil=>simp at h3;omega
  | cons u us'=>exact ⟨u,us',rfl⟩
 have hall:((List.map (fun _=>Value.type "int") (u::us')).toArray.all fun x=>x==Value.type "int")=true:=by
  simp only [List.all_toArray,List.all_map,List.all_eq_true]
  intro _ _
  rfl
 have h0':(List.map (fun _=>Value.type "int") (u::us')).toArray[0]? = some (Value.type "int"):=by simp
 rw [h0']
 simp only [hall,if_true,pure_bind]
 exact qaX hq
end
theorem znQ.keep {h h':Heap} {v:Value} {p:List Int} (k: ∀ b o,h.get? b=some o->h'.get? b=some o):znQ h v p->znQ h' v p:=fun ⟨a,its,e,⟨o,x1,x2⟩,z⟩=>⟨a,its,e,⟨o,k _ _ x1,x2⟩,z⟩
structure KR where
 O:KeyOrd
 dflt:O.α
 At:Heap->Value->O.α->Prop
 inj: ∀ {h v p q},At h v p->At h v q->p=q
 keep: ∀ {h h':Heap} {v p},(∀ b o,h.get? b=some o->h'.get? b=some o)->At h v p->At h' v p
 first: ∀ {h v p},At h v p->zhS h v
 lt: ∀ {prog:Program} {w:World} {A:Around} {s:Shared} {E:Value->Shared->Prop} {Q:Bool->Shared->Prop} {u v p q},At s.heap v p->At s.heap u q->A.units+2<cLine->Q (O.blt p q) s->wpAny (model prog w) A (keyLt' (tuples' true) v u) Q E s
open Classical in
noncomputable def KR.ky (k:KR) (h:Heap) (v:Value):k.O.α:=if e: ∃ p,k.At h v p then e.choose else k.dflt
theorem KR.ky_eq {k:KR} {h:Heap} {v:Value} {p:k.O.α} (e:k.At h v p):k.ky h v=p:=by
 unfold KR.ky
 rw [dif_pos ⟨p,e⟩]
 exact k.inj (Exists.choose_spec ⟨p,e⟩) e
theorem KR.srt (k:KR) {prog:Program} {w:World} {A:Around} {vs:List Value} {s1:Shared} (hr:A.units+2<cLine) (h: ∀ v,v∈vs-> ∃ p,k.At s1.heap v p):Srt prog w A vs s1 (tuples' true) k.O (k.ky s1.heap) (fun v=> ∃ p,k.At s1.heap v p):=by
 refine ⟨h,fun s2 hk=>⟨fun h2 E Q hq=>zn2 (fun v hv=> ?_) h2 hq,fun E x y Q hx hy hq=> ?_⟩⟩
 ·obtain ⟨p,hp⟩:=h v hv
  exact k.first (k.keep hk hp)
 ·obtain ⟨p,hp⟩:=hx
  obtain ⟨q,hq'⟩:=hy
  rw [KR.ky_eq hp,KR.ky_eq hq'] at hq
  exact k.lt (k.keep hk hp) (k.keep hk hq') hr hq
end TS
namespace TS
set_option autoImplicit false
open PySem PyProof.Rows
end TS
namespace L2
open PySem PySem.Spec PyProof.Rows TS
section
variable {X:L2.Cx}
end
end L2
namespace L3
open PySem PySem.Spec PyProof.Rows L2 TS
section
variable {X:L2.Cx} {E:XE}
end
end L3
namespace L3
open PySem PySem.Spec PyProof.Rows L2
section
variable {X:Cx} {E:XE}
end
section
variable {X:Cx} {E:XE} {scope:Scope} {N:List Str} {src:List (Option Nat)} {tg iter elt:Expr} {ifs:List Expr} {pos:Pos}
noncomputable def zpC (d:D):M D:=match d with
 | .cel n=>fun h=>match h[n]? with
  | some (.lst ds)=> .ok (.lst ds) (h.set n .dead)
  | _=> .bad
 | _=>M.bad
theorem zrx {e:Expr} {f:FE} (he:SE X E e f):SE X E e (cUn zpC f):=by
 refine PE.imp he fun σ H Q ⟨ι,h,sd,L,hh,q⟩=>⟨ι,h,sd,L,hh,Fin.bind q fun d h1 ι1 H1 e1 s1 hr1 q1 v rv=> ?_⟩
 cases d with
 | cel n=>
  simp only [Rel] at rv
  obtain ⟨a,rfl,hn⟩:=rv
  rcases hn with hn | hn
  rotate_left
  ·have hd:=hr1.dead n hn
   have:Fin X.K E ι1 H1 (match h1[n]? with | some (.lst ds)=>R.ok (D.lst ds) (h1.set n .dead) | _=> .bad) _:=q1
   rw [hd] at this
   exact qa0 this
  have hlt:=(qac.mp hn).1
  have hl:=hr1.len
  obtain ⟨c,hc⟩: ∃ c,h1[n]? = some c:=⟨h1[n],by simp [hl,hlt]⟩
  obtain ⟨ds,vs,rfl,e2,rl⟩: ∃ ds vs,c= .lst ds/\H1 a=some (.lst vs)/\zam X.K ι1 H1 ds vs:=by
   obtain ⟨o,e1,e2⟩:=hr1.at_ n a c hn hc
   cases c with
   | lst ds=>obtain ⟨vs,rfl,rl⟩:=e2;exact ⟨ds,vs,rfl,e1,rl⟩
   | dic kvs=>
    have:Fin X.K E ι1 H1 (match h1[n]? with | some (.lst ds)=>R.ok (D.lst ds) (h1.set n .dead) | _=> .bad) _:=q1
    rw [hc] at this
    exact qa0 this
   | dit ks=>
    have:Fin X.K E ι1 H1 (match h1[n]? with | some (.lst ds)=>R.ok (D.lst ds) (h1.set n .dead) | _=> .bad) _:=q1
    rw [hc] at this
    exact qa0 this
   | ins _ _=>
    have:Fin X.K E ι1 H1 (match h1[n]? with | some (.lst ds)=>R.ok (D.lst ds) (h1.set n .dead) | _=> .bad) _:=q1
    rw [hc] at this
    exact qa0 this
   | dead=>exact qa0 e2
  have q2:Fin X.K E ι1 H1 (.ok (.lst ds) (h1.set n .dead)) fun d ι' H'=> ∀ v,Rel X.K ι' H' d v->Q v H':=by
   have:Fin X.K E ι1 H1 (match h1[n]? with | some (.lst ds)=>R.ok (D.lst ds) (h1.set n .dead) | _=> .bad) _:=q1
   rw [hc] at this
   exact this
  have mem: ∀ b,some b∈ι1.c.set n none->some b∈ι1.c:=fun b hb=>by
   rcases List.mem_or_eq_of_mem_set hb with z | z
   ·exact z
   ·cases z
  have st:za6 ι1 H1 ⟨ι1.c.set n none,ι1.x⟩ H1:=by
   refine ⟨fun k o hk=> ?_,fun b hb=> .inl (mem b hb),rfl,fun _ _=>rfl,fun _ _ h _=>h⟩
   by_cases hkn:n=k
   ·subst hkn
    right
    show (ι1.c.set n none)[n]? = _
    rw [qai hlt]
   ·left
    show (ι1.c.set n none)[k]? = _
    rw [qao hkn]
    exact hk
  have hna:some a∉ι1.c.set n none:=fun z=>by
   obtain ⟨k,hk⟩:=List.getElem?_of_mem z
   by_cases hkn:n=k
   ·subst hkn
    rw [qai hlt] at hk
    cases hk
   ·rw [qao hkn] at hk
    exact hkn (hr1.inj n k a hn hk)
  have hrn:zaQ X.K ⟨ι1.c.set n none,ι1.x⟩ H1 (h1.set n .dead):=by
   refine ⟨by simp [hl],fun i j b hi hj=> ?_,fun k b c' hk hc'=> ?_,fun k hk=> ?_,fun b hb=>⟨(hr1.hidt b hb).1,fun z=>(hr1.hidt b hb).2 (mem b z)⟩⟩
   ·have hi:(ι1.c.set n none)[i]? = some (some b):=hi
    have hj:(ι1.c.set n none)[j]? = some (some b):=hj
    have key: ∀ k,(ι1.c.set n none)[k]? = some (some b)->ι1.c[k]? = some (some b):=fun k hk=>by
     by_cases hkn:n=k
     ·subst hkn
      rw [qai hlt] at hk
      cases hk
     ·rw [qao hkn] at hk
      exact hk
    exact hr1.inj i j b (key i hi) (key j hj)
   ·have hk:(ι1.c.set n none)[k]? = some (some b):=hk
    by_cases hkn:n=k
    ·subst hkn
     rw [qai hlt] at hk
     cases hk
    ·rw [qao hkn] at hk hc'
     obtain ⟨o',x2,x3⟩:=hr1.at_ k b c' hk hc'
     exact ⟨o',x2,x3.pass st.pass⟩
   ·have hk:(ι1.c.set n none)[k]? = some none:=hk
    by_cases hkn:n=k
    ·subst hkn
     rw [qai (by omega)]
    ·rw [qao hkn] at hk ⊢
     exact hr1.dead k hk
  refine q2 _ _ st hrn (.ref a) ?_
  simp only [Rel]
  refine ⟨a,vs,rfl,⟨e2,fun z=> ?_⟩,rl.step st⟩
  rcases z with z | z
  ·exact hna z
  ·exact (hr1.hidt a z).2 (List.mem_of_getElem? hn)
 | _=>exact qa0 q1
end
end L3
namespace L3
open PySem
open Sem (wp)
open AutoSeq1 (wpAny_loadPart')
section
variable {prog:Program} {w:World} {A:Around} {E:Value->Shared->Prop} {s:Shared}
end
end L3
namespace L2
open PySem PySem.Spec PyProof.Rows
section
variable {X:Cx} {elts:List Expr} {k:Nat} {tpos:Pos}
end
end L2
namespace L3
open PySem PySem.Spec PyProof.Rows L2
section
variable {X:Cx} {E:XE} {elts:List Expr} {k:Nat} {tpos pos:Pos}
end
end L3
namespace L2
open PySem PySem.Spec PyProof.Rows
section
variable {κ:Type} [DecidableEq κ]
noncomputable def zkq (kvs:List (κ×V)) (k:κ) (v:V):List (κ×V):=
 if (kvs.any fun kv=>decide (kv.1=k))=true then kvs.map (fun kv=>if kv.1=k then (kv.1,v) else kv) else kvs++[(k,v)]
theorem zg1 (kvs:List (κ×V)) (k:κ) (v:V):(zkq kvs k v).length<=kvs.length+1:=by
 unfold zkq
 split
 ·rw [qaH];omega
 ·rw [qav,qaE,qaJ];omega
theorem KV.any {kvs:List (κ×V)} {vs:List (κ×Value)} (r:KV kvs vs) (k:κ):(kvs.any fun kv=>decide (kv.1=k))=vs.any fun kv=>decide (kv.1=k):=by
 unfold KV at r
 induction r with
 | nil=>rfl
 | cons h t ih=>rw [List.any_cons,List.any_cons,ih,h.1]
theorem KV.repl {kvs:List (κ×V)} {vs:List (κ×Value)} (r:KV kvs vs) (k:κ) {y:V} {u:Value} (ry:zbk y u):
  KV (kvs.map fun kv=>if kv.1=k then (kv.1,y) else kv) (vs.map fun kv=>if kv.1=k then (kv.1,u) else kv):=by
 unfold KV at r ⊢
 induction r with
 | nil=>exact .nil
 | @cons p q ps qs h t ih=>
  rw [qaM,qaM]
  refine .cons ?_ ih
  obtain ⟨h1,h2⟩:=h
  by_cases e:p.1=k
  ·rw [qa4 e,qa4 (h1.symm.trans e)];exact ⟨h1,ry⟩
  ·rw [qa5 e,qa5 (fun z=>e (h1.trans z))];exact ⟨h1,h2⟩
theorem KV.put {kvs:List (κ×V)} {vs:List (κ×Value)} (r:KV kvs vs) (k:κ) {y:V} {u:Value} (ry:zbk y u):KV (zkq kvs k y) (stored vs k u):=by
 unfold zkq stored
 rw [r.any k]
 by_cases e:(vs.any fun kv=>decide (kv.1=k))=true
 ·rw [qa4 e,qa4 e];exact r.repl k ry
 ·rw [qa5 e,qa5 e];exact Paired.snoc r ⟨rfl,ry⟩
theorem KV.length {kvs:List (κ×V)} {vs:List (κ×Value)} (r:KV kvs vs):kvs.length=vs.length:=Paired.length r
end
theorem zo6 {P:Program} {w:World} {k:Key} {u:Value} (r:zbk (kV k) u):(zdD P w).is k u=true:=by
 cases k with
 | inl i=>obtain ⟨t,e⟩:=(show ∃ t,u=Value.int i t from r);subst e;exact zgQ P w i t
 | inr x=>obtain ⟨t,e⟩:=(show ∃ t,u=Value.str x t from r);subst e;exact zg4 P w x t
section
variable {X:Cx}
end
end L2
namespace L3
open PySem PySem.Spec PyProof.Rows L2
section
variable {X:L2.Cx} {E:XE}
noncomputable def zmh (kvs:List (Int×D)) (k:Int) (d:D):List (Int×D):=
 if (kvs.any fun p=>decide (p.1=k))=true then kvs.map (fun p=>if p.1=k then (p.1,d) else p) else kvs++[(k,d)]
noncomputable def zgw (n:Nat):M (List (Int×D)):=fun h=>match h[n]? with
 | some (.dic kvs)=> .ok kvs h
 | _=> .bad
theorem zog {K:W.Frag} {ι:Io} {H:Hp} {kvs:List (Int×D)} {vs:List (Key×V)} {k:Int} {d:D} {v:V} (r:Paired (fun (p:Int×D) (q:Key×V)=>q.1= .inl p.1/\Rel K ι H p.2 q.2) kvs vs) (rv:Rel K ι H d v):
  Paired (fun (p:Int×D) (q:Key×V)=>q.1= .inl p.1/\Rel K ι H p.2 q.2) (zmh kvs k d) (zkq vs (.inl k) v):=by
 have ha:(kvs.any fun p=>decide (p.1=k))=(vs.any fun p=>decide (p.1=(.inl k:Key))):=by
  induction r with
  | nil=>rfl
  | @cons p q ps qs h t ih=>
   rw [List.any_cons,List.any_cons,ih,h.1]
   congr 1
   rw [Bool.eq_iff_iff]
   simp only [qaD]
   exact ⟨fun z=>by rw [z],fun z=>by injection z⟩
 unfold zmh zkq
 rw [ha]
 by_cases e:(vs.any fun p=>decide (p.1=(.inl k:Key)))=true
 ·rw [qa4 e,qa4 e]
  clear ha e
  induction r with
  | nil=>exact .nil
  | @cons p q ps qs h t ih=>
   rw [qaM,qaM]
   refine .cons ?_ ih
   by_cases e:p.1=k
   ·rw [qa4 e,qa4 (by rw [h.1,e])];exact ⟨h.1,rv⟩
   ·rw [qa5 e,qa5 (fun z=>e (by rw [h.1] at z;injection z))];exact h
 ·rw [qa5 e,qa5 e]
  exact Paired.snoc r ⟨rfl,rv⟩
end
open LT
section
variable {h:Hh}
end
end L3
namespace L3
open PySem PySem.Spec PyProof.Rows L2
structure Fd (K:W.Frag) (x:Str) (st:Stmt) (a:Addr) (d:FuncData):Prop where
 e:W.nsIn K mainGlobals x=some (some (.ref a))
 F:Fun K x x st a d
section
variable {X:Cx} {E:XE}
end
end L3
namespace L3
open PySem PyProof.Rows HT
section
open PySem.SeqAt
open PySem.AutoSeq1 (wpAny_loadPart')
open PySem.MeetsSeq PySem.MeetsSeq2 PySem.MeetsSeq3
end
section
variable {prog:Program} {w:World} {A:Around} {E:Value->Shared->Prop} {s:Shared}
end
end L3
namespace L3
open PySem PyProof.Rows
section
open PySem.SeqAt
open PySem.AutoSeq1 (wpAny_loadPart')
open PySem.MeetsSeq PySem.MeetsSeq2 PySem.MeetsSeq3
section
variable {prog:Program} {w:World} {A:Around} {E:Value->Shared->Prop} {s:Shared}
end
end
open PySem.Spec L2
section
variable {X:Cx} {E:XE}
end
end L3
namespace L2
open PySem PySem.Spec PyProof.Rows
section
variable {X:Cx}
end
end L2
namespace L3
open PySem PySem.Spec PyProof.Rows L2
section
variable {X:Cx} {E:XE}
end
open Classical in
noncomputable def chk (n:Nat) (ds:List D):M Unit:=fun h=>if h[n]? = some (.lst ds) then .ok () h else .bad
noncomputable def zbE (n:Nat) (full:List D) (f:D->M (Option D)):List D->M (List D)
 | []=>do chk n full;pure []
 | x::r=>do
  chk n full
  let o<-f x
  let ys<-zbE n full f r
  pure (match o with | some y=>y::ys | none=>ys)
section
variable {X:Cx} {E:XE} {scope:Scope} {N:List Str} {src:List (Option Nat)} {tg iter elt:Expr} {ifs:List Expr} {pos:Pos}
theorem zi2 {α β:Type} {K:W.Frag} {ι:Io} {H:Hp} {h:Hh} {n:Nat} {ds:List D} {m:M α} {f:α->M β} {P:β->Io->Hp->Prop} (q:Fin K E ι H ((((do chk n ds;m):M α)>>=f) h) P):h[n]? = some (.lst ds)/\Fin K E ι H ((m>>=f) h) P:=by
 have e:(((do chk n ds;m):M α)>>=f) h=match chk n ds h with | .ok _ h'=>(m>>=f) h' | .exc c h'=> .exc c h' | .bad=> .bad:=by
  show M.bind (M.bind (chk n ds) fun _=>m) f h=_
  unfold M.bind
  cases chk n ds h<;>rfl
 rw [e] at q
 unfold chk at q
 by_cases hc:h[n]? = some (.lst ds)
 ·rw [qa4 hc] at q
  exact ⟨hc,q⟩
 ·rw [qa5 hc] at q
  exact qa0 q
theorem zsL {n:Nat} {a:Addr} {K:W.Frag} {g:D->Sd->M Sd} {tc:Sd->M Bool} {te:Sd->M D} {ds:List D} {ι:Io} {H:Hp} {h:Hh} {sd:Sd} {σ:L2.St} {Q:VK} {p:Addr} (hk:zaF g src) (L:zbJ K ι H sd σ) (hr:zaQ K ι H h) (hn:ι.c[n]? = some (some a)) (hz:ds.length<=sizeLine)
  (q:Fin K E ι H ((do let ys<-zbE n ds (zaY g tc te (zal src sd)) ds;pure (D.lst ys)) h) fun d ι' H'=> ∀ v,Rel K ι' H' d v->Q v H') (hp:H p=none):
  zqY (Itl K a) (zp4 K E g) (zhc K E tc) (zgK K E te) (bStart src σ) H p fun H'=>Q (.ref p) H':=by
 generalize hP:(fun (d:D) (ι':Io) (H':Hp)=> ∀ v,Rel K ι' H' d v->Q v H')=P at q
 generalize hf:zaY g tc te (zal src sd)=f at q
 have hpx:p∉ι.x:=fun z=>hr.nin hp (.inr z)
 have h0len:(zal src sd).length=src.length:=by unfold zal;rw [qaH]
 have h0non: ∀ (i:Nat),src[i]? = some none->(zal src sd)[i]? = some none:=fun i e=>by unfold zal;rw [List.getElem?_map,e];rfl
 refine ⟨fun i m σ' H'=>m=ds.length - i/\i<=ds.length/\ ∃ ι' h' done vs,ι'.x=p::ι.x/\za6 ι H ι'.show H'/\zbJ K ι' H' (zal src sd) σ'/\zaQ K ι' H' h'/\H' p=some (.lst vs)/\zam K ι' H' done vs/\done.length<=i/\
     Fin K E ι H ((do let ys<-zbE n ds f (ds.drop i);pure (D.lst (done++ys))) h') P,
   ⟨_,rfl,Nat.zero_le _,ι.hide p,h,[],[],rfl,?_,L.bStart.pass (zen hp),hr.hide hp,zax,zam.nil,qaV _,?_⟩,?_⟩
 ·have:=hr.laidS (o:= .lst []) hp
  exact ⟨this.old,this.new,this.hid,this.hidk,this.keep⟩
 ·simpa using q
 rintro i m σ2 H2 ⟨rfl,hi2,ι2,h2,done,vs,hx2,s2,L2,hr2,e2,rl2,dl2,q2⟩
 have ps2:Pass ι H ι2 H2:=⟨s2.old,fun b o hb n=>⟨s2.keep b o hb n,fun z=>by
   rcases z with z | z
   · exact s2.nin hb n (.inl z)
   · rw [hx2] at z
     rcases qaP.mp z with z | z
     · rw [z,hp] at hb;cases hb
     · exact n (.inr z)⟩⟩
 have hp2:p∈ι2.x:=by rw [hx2];exact qau
 have base: ∀ {ι':Io} {H':Hp},za6 ι2 H2 ι' H'->za6 ι H ι'.show H':=fun t=>s2.trans (t.shown hx2)
 have fact:h2[n]? = some (.lst ds)-> ∃ vs2,H2 a=some (.lst vs2)/\zam K ι2 H2 ds vs2:=fun hc=>by
  have hn2:ι2.c[n]? = some (some a):=by
   rcases s2.old n (some a) hn with z | z
   ·exact z
   ·have:=hr2.dead n z
    rw [hc] at this
    cases this
  obtain ⟨o,e1,e2⟩:=hr2.at_ n a _ hn2 hc
  obtain ⟨vs2,rfl,rl⟩:=e2
  exact ⟨vs2,e1,rl⟩
 by_cases hlt:i<ds.length
 ·right
  have edr:ds.drop i=ds[i]::ds.drop (i+1):=qae hlt
  rw [edr,zbE] at q2
  obtain ⟨hc,q2⟩:=zi2 q2
  obtain ⟨vs2,ev2,rlv⟩:=fact hc
  have sq:SqL K H2 a vs2:= .inl (.inl ev2)
  have hlv:=rlv.length
  refine ⟨⟨vs2,vs2[i]'(by omega),sq,by simp⟩,fun σ' H'=>i+1<=ds.length/\ ∃ ι' h' done vs,ι'.x=p::ι.x/\za6 ι H ι'.show H'/\zbJ K ι' H' (zal src sd) σ'/\zaQ K ι' H' h'/\H' p=some (.lst vs)/\zam K ι' H' done vs/\done.length<=i+1/\
    Fin K E ι H ((do let ys<-zbE n ds f (ds.drop (i+1));pure (D.lst (done++ys))) h') P,fun σ' H' z=>⟨ds.length - (i+1),by omega,rfl,z.1,z.2⟩,fun x H3 y=> ?_⟩
  obtain ⟨eH,y⟩:=y
  have eH:=eH.symm
  subst eH
  obtain ⟨d,ed,rd⟩:=rlv.getV (y vs2 sq)
  have s3:za6 ι2 H2 ι2 H2:=za6.refl _ _
  have hr3:=hr2
  rw [qaf hlt] at ed
  rw [Option.some.inj ed] at q2
  have q3:=q2
  have st3:za6 ι2 H2 ι2 H2:=s3
  have e3:H2 p=some (.lst vs):=e2
  have eq1:((do let o<-f d;let ys<-zbE n ds f (ds.drop (i+1));pure (match o with | some y=>y::ys | none=>ys))>>=fun ys=>pure (D.lst (done++ys)):M D)=(g d (zal src sd)>>=fun sd1=>tc sd1>>=fun c=>if c=true then (te sd1>>=fun y=>zbE n ds f (ds.drop (i+1))>>=fun ys=>pure (D.lst (done++[y]++ys))) else (zbE n ds f (ds.drop (i+1))>>=fun ys=>pure (D.lst (done++ys)))):=by
   rw [<- hf]
   simp only [zaY,bind_assoc]
   refine congrArg _ (funext fun sd1=> ?_)
   refine congrArg _ (funext fun c=> ?_)
   cases c with
   | true=>simp only [if_true,bind_assoc,pure_bind,List.append_assoc,List.cons_append,List.nil_append]
   | false=>simp only [qax,if_false,pure_bind]
  rw [eq1] at q3
  refine ⟨ι2,h2,zal src sd,d,L2.step s3,hr3,rd,?_⟩
  refine Fin.bindB q3 (fun ι' H' h' s hr'=>⟨ι'.show,base (s3.trans s),hr'.show⟩) fun sd4 h4 ι4 H4 e4 s4 hr4 q4 σ4 L4=> ?_
  have hx4:ι4.x=p::ι.x:=by rw [s4.hid];exact hx2
  obtain ⟨k1,k2⟩:=hk d _ h2 sd4 h4 h0len h0non e4
  refine ⟨ι4,h4,sd4,L4,hr4,Fin.bindB q4 (fun ι' H' h' s hr'=>⟨ι'.show,base ((s3.trans s4).trans s),hr'.show⟩) fun c h5 ι5 H5 e5 s5 hr5 q5=> ?_⟩
  have hx5:ι5.x=p::ι.x:=by rw [s5.hid];exact hx4
  have sub: ∀ {ι':Io} {H':Hp},zbJ K ι' H' sd4 σ4->zbJ K ι' H' (zal src sd) σ4:=fun {ι' H'} z=>⟨by rw [<- k1];exact z.1,fun j d' e=>z.2 j d' (k2 j d' (fun w=>by rw [h0non j w] at e;cases e) e)⟩
  have st5:za6 ι2 H2 ι5 H5:=(s3.trans s4).trans s5
  cases c with
  | false=>
   exact zqK ⟨hlt,ι5,h5,done,vs,hx5,base st5,sub (L4.step s5),hr5,by rw [st5.hidk p hp2];exact e2,rl2.step st5,Nat.le_succ_of_le dl2,q5⟩
  | true=>
   refine zqy ⟨ι5,h5,sd4,L4.step s5,hr5,Fin.bindB q5 (fun ι' H' h' s hr'=>⟨ι'.show,base (st5.trans s),hr'.show⟩) fun yd h6 ι6 H6 e6 s6 hr6 q6 y ry=> ?_⟩
   have st6:za6 ι2 H2 ι6 H6:=st5.trans s6
   have hx6:ι6.x=p::ι.x:=by rw [s6.hid];exact hx5
   have hp6:p∈ι6.x:=by rw [hx6];exact qau
   have e6':H6 p=some (.lst vs):=by rw [st6.hidk p hp2];exact e2
   refine ⟨vs,e6',by rw [<- rl2.length];omega,hlt,ι6,h6,done++[yd],vs++[y],hx6,zf2 hp hpx hx2 s2 st6,?_,hr6.hid hp6,zax,?_,?_,?_⟩
   ·exact ((sub (L4.step s5)).step s6).pass (zdo hp6)
   ·exact ((rl2.step st6).append (zam.cons ry zam.nil)).pass (zdo hp6)
   ·rw [qav,List.length_singleton];omega
   ·exact q6
 ·left
  have e:i=ds.length:=by omega
  subst e
  rw [List.drop_length,zbE] at q2
  obtain ⟨hc,q2⟩:=zi2 q2
  obtain ⟨vs2,ev2,rlv⟩:=fact hc
  refine ⟨⟨vs2,.inl (.inl ev2),by rw [rlv.length];exact qaV _⟩,?_⟩
  have q3:P (.lst done) ι2.show H2:=by
   have:Fin K E ι H ((pure (D.lst (done++[])):M D) h2) P:=q2
   rw [List.append_nil] at this
   exact this _ _ s2 hr2.show
  rw [<- hP] at q3
  refine q3 (.ref p) ?_
  simp only [Rel]
  refine ⟨p,vs,rfl,⟨e2,fun z=> ?_⟩,rl2.pass zee⟩
  rcases z with z | z
  ·exact (hr2.hidt p (by rw [hx2];exact qau)).2 z
  ·exact hpx (by have z:p∈ι2.x.tail:=z;rw [hx2] at z;exact z)
noncomputable def zfa (f:FE) (g:D->Sd->M Sd) (tc:Sd->M Bool) (te:Sd->M D) (src:List (Option Nat)):Sd->M D:=fun sd=>do
 let d<-f sd
 match d with
 | .cel n=>do
  let ds<-zaf n
  fits ds.length
  let ys<-zbE n ds (zaY g tc te (zal src sd)) ds
  pure (D.lst ys)
 | _=>M.bad
theorem zlm {K:W.Frag} {f:FE} {g:D->Sd->M Sd} {tc:Sd->M Bool} {te:Sd->M D} (hk:zaF g src) (σ:L2.St) (H:Hp) (Q:VK) (q:zgK K E (zfa f g tc te src) σ H Q):
  zlP (zsh K (zgK K E f)) (zp4 K E g) (zhc K E tc) (zgK K E te) src σ H Q:=by
 obtain ⟨ι,h,sd,L,hh,q⟩:=q
 refine ⟨ι,h,sd,L,hh,Fin.bind q fun d h1 ι1 H1 e1 s1 hr1 q1 v rv=> ?_⟩
 cases d with
 | cel n=>
  simp only [Rel] at rv
  obtain ⟨a,rfl,hn⟩:=rv
  have q1:Fin K E ι1 H1 ((do let ds<-zaf n;fits ds.length;let ys<-zbE n ds (zaY g tc te (zal src sd)) ds;pure (D.lst ys):M D) h1) _:=q1
  have key: ∃ ds,h1[n]? = some (.lst ds)/\Fin K E ι1 H1 ((do fits ds.length;let ys<-zbE n ds (zaY g tc te (zal src sd)) ds;pure (D.lst ys):M D) h1) (fun d ι' H'=> ∀ v,Rel K ι' H' d v->Q v H'):=by
   cases hc:h1[n]? with
   | none=>
    have e:zaf n h1= .bad:=by unfold zaf;rw [hc]
    have:Fin K E ι1 H1 (M.bind (zaf n) _ h1) _:=q1
    unfold M.bind at this
    rw [e] at this
    exact qa0 this
   | some c=>
    cases c with
    | lst ds=>
     have e:zaf n h1= .ok ds h1:=by unfold zaf;rw [hc]
     have:Fin K E ι1 H1 (M.bind (zaf n) _ h1) _:=q1
     unfold M.bind at this
     rw [e] at this
     exact ⟨ds,rfl,this⟩
    | _=>
     have e:zaf n h1= .bad:=by unfold zaf;rw [hc]
     have:Fin K E ι1 H1 (M.bind (zaf n) _ h1) _:=q1
     unfold M.bind at this
     rw [e] at this
     exact qa0 this
  obtain ⟨ds,hc,q2⟩:=key
  rcases hn with hn | hn
  ·obtain ⟨o,e1,e2⟩:=hr1.at_ n a _ hn hc
   obtain ⟨vs,rfl,rl⟩:=e2
   obtain ⟨z,q3⟩:=Fin.fits q2
   exact ⟨a,rfl,.inl ⟨⟨vs,.inl (.inl e1)⟩,fun p hp=>zsL hk (L.step s1) hr1 hn z q3 hp⟩⟩
  ·have:=hr1.dead n hn
   rw [hc] at this
   cases this
 | _=>exact qa0 q1
theorem zno {f:FE} {g:D->Sd->M Sd} {tc:Sd->M Bool} {te:Sd->M D} (B:BOk X scope N src) (hk:zaF g src) (hi:SE X E iter f)
  (hg: ∀ s H fp,SG (cxB X scope N s H fp) E tg g) (ht: ∀ s H fp,SCs (cxB X scope N s H fp) E ifs tc) (he: ∀ s H fp,SE (cxB X scope N s H fp) E elt te)
  (hs: ∀ x,foldedSetIterable iter X.env x=pure x:=by intro _;rfl):SE X E (.ListComp elt [⟨tg,iter,ifs,0⟩] scope pos) (zfa f g tc te src):=
 PE.imp (zj4 B (zkx hi) hg ht he hs) (zlm hk)
end
end L3
namespace L3
open PySem PySem.Spec PyProof.Rows L2
noncomputable def zbq (n:Nat) (full:List D) (body:D->Sd->M Out):List D->Sd->M Out
 | [],sd=>do chk n full;pure (.nx sd)
 | x::r,sd=>do
  chk n full
  let o<-body x sd
  match o with
  | .nx sd'=>zbq n full body r sd'
  | .ct sd'=>zbq n full body r sd'
  | .bk sd'=>pure (.nx sd')
  | .rt d=>pure (.rt d)
noncomputable def zn8 (f:FE) (g:D->Sd->M Sd) (gb:FS):FS:=fun sd=>do
 let d<-f sd
 match d with
 | .cel n=>do
  let ds<-zaf n
  zbq n ds (fun x sd=>do let sd1<-g x sd;gb sd1) ds sd
 | _=>M.bad
section
variable {X:Cx} {E:XE} {pos:Pos}
theorem zhz {β:Type} {K:W.Frag} {ι:Io} {H:Hp} {h:Hh} {n:Nat} {ds:List D} {m:M β} {P:β->Io->Hp->Prop} (q:Fin K E ι H (((do chk n ds;m):M β) h) P):h[n]? = some (.lst ds)/\Fin K E ι H (m h) P:=by
 have e:((do chk n ds;m):M β) h=match chk n ds h with | .ok _ h'=>m h' | .exc c h'=> .exc c h' | .bad=> .bad:=by
  show M.bind (chk n ds) (fun _=>m) h=_
  unfold M.bind
  cases chk n ds h<;>rfl
 rw [e] at q
 unfold chk at q
 by_cases hc:h[n]? = some (.lst ds)
 ·rw [qa4 hc] at q
  exact ⟨hc,q⟩
 ·rw [qa5 hc] at q
  exact qa0 q
theorem zly {β:Type} {K:W.Frag} {ι:Io} {H:Hp} {h:Hh} {n:Nat} {f:List D->M β} {P:β->Io->Hp->Prop} (q:Fin K E ι H (((do let ds<-zaf n;f ds):M β) h) P): ∃ ds,h[n]? = some (.lst ds)/\Fin K E ι H (f ds h) P:=by
 have q:Fin K E ι H (M.bind (zaf n) f h) P:=q
 unfold M.bind at q
 cases hc:h[n]? with
 | none=>
  have e:zaf n h= .bad:=by unfold zaf;rw [hc]
  rw [e] at q
  exact qa0 q
 | some c=>
  cases c with
  | lst ds=>
   have e:zaf n h= .ok ds h:=by unfold zaf;rw [hc]
   rw [e] at q
   exact ⟨ds,rfl,q⟩
  | _=>
   have e:zaf n h= .bad:=by unfold zaf;rw [hc]
   rw [e] at q
   exact qa0 q
theorem zpJ {tg iter:Expr} {body:List Stmt} {f:FE} {g:D->Sd->M Sd} {gb:FS} (hc:X.calm=true) (hp:PassesOwn (model X.prog X.w) X.A X.env X.xe) (hi:SE X E iter f) (hg:SG X E tg g) (hb:SSs X E body gb)
  (hs: ∀ x,foldedSetIterable iter X.env x=pure x:=by intro _;rfl):SS X E (.For tg iter body [] pos) (zn8 f g gb):=by
 refine PS.imp (zmt hp hc (zkx hi) hg hb hs) fun D0 σ H ⟨ι,h,sd,L,hh,q⟩=>⟨ι,h,sd,L,hh,Fin.bind q fun d h1 ι1 H1 e1 s1 hr1 q1 v rv=> ?_⟩
 cases d with
 | cel n=>
  simp only [Rel] at rv
  obtain ⟨a,rfl,hn⟩:=rv
  obtain ⟨ds,hcl,q1⟩:=zly q1
  generalize hF:(fun (x:D) (sd:Sd)=>(do let sd1<-g x sd;gb sd1:M Out))=F at q1
  rcases hn with hn | hn
  rotate_left
  ·have:=hr1.dead n hn
   rw [hcl] at this
   cases this
  obtain ⟨o,eo1,eo2⟩:=hr1.at_ n a _ hn hcl
  obtain ⟨vs0,rfl,rl0⟩:=eo2
  refine ⟨a,rfl,.inl ⟨⟨vs0,.inl (.inl eo1)⟩,?_⟩⟩
  refine ⟨fun i m σ' H'=>m=ds.length - i/\i<=ds.length/\ ∃ ι' h' sd',za6 ι1 H1 ι' H'/\zbJ X.K ι' H' sd' σ'/\zaQ X.K ι' H' h'/\Fin X.K E ι' H' (zbq n ds F (ds.drop i) sd' h') (zfp X.K D0),
    ⟨_,rfl,Nat.zero_le _,ι1,h1,sd,za6.refl _ _,L.step s1,hr1,by simpa using q1⟩,?_⟩
  rintro i m σ2 H2 ⟨rfl,hi2,ι2,h2,sd2,s2,L2,hr2,q2⟩
  have fact:h2[n]? = some (.lst ds)-> ∃ vs2,H2 a=some (.lst vs2)/\zam X.K ι2 H2 ds vs2:=fun hc=>by
   have hn2:ι2.c[n]? = some (some a):=by
    rcases s2.old n (some a) hn with z | z
    ·exact z
    ·have:=hr2.dead n z
     rw [hc] at this
     cases this
   obtain ⟨o,e1,e2⟩:=hr2.at_ n a _ hn2 hc
   obtain ⟨vs2,rfl,rl⟩:=e2
   exact ⟨vs2,e1,rl⟩
  by_cases hlt:i<ds.length
  ·right
   have edr:ds.drop i=ds[i]::ds.drop (i+1):=qae hlt
   rw [edr,zbq] at q2
   obtain ⟨hc,q2⟩:=zhz q2
   obtain ⟨vs2,ev2,rlv⟩:=fact hc
   have sq:SqL X.K H2 a vs2:= .inl (.inl ev2)
   have hlv:=rlv.length
   refine ⟨⟨vs2,vs2[i]'(by omega),sq,by simp⟩,fun σ' H'=>i+1<=ds.length/\ ∃ ι' h' sd',za6 ι1 H1 ι' H'/\zbJ X.K ι' H' sd' σ'/\zaQ X.K ι' H' h'/\Fin X.K E ι' H' (zbq n ds F (ds.drop (i+1)) sd' h') (zfp X.K D0),
     fun σ' H' p=>⟨ds.length - (i+1),by omega,rfl,p.1,p.2⟩,fun x H3 y=> ?_⟩
   obtain ⟨eH,y⟩:=y
   have eH:=eH.symm
   subst eH
   obtain ⟨d,ed,rd⟩:=rlv.getV (y vs2 sq)
   rw [qaf hlt] at ed
   rw [Option.some.inj ed] at q2
   refine ⟨ι2,h2,sd2,d,L2,hr2,rd,?_⟩
   have q5:Fin X.K E ι2 H2 ((g d sd2>>=fun sd1=>(gb sd1>>=fun o=>(match o with
     | .nx sd'=>zbq n ds F (ds.drop (i+1)) sd'
     | .ct sd'=>zbq n ds F (ds.drop (i+1)) sd'
     | .bk sd'=>pure (.nx sd')
     | .rt d=>pure (.rt d):M Out))) h2) (zfp X.K D0):=by
    have e:((do let o<-F d sd2;match o with
      | .nx sd'=>zbq n ds F (ds.drop (i+1)) sd'
      | .ct sd'=>zbq n ds F (ds.drop (i+1)) sd'
      | .bk sd'=>pure (.nx sd')
      | .rt d=>pure (.rt d):M Out) h2)=((g d sd2>>=fun sd1=>(gb sd1>>=fun o=>(match o with
      | .nx sd'=>zbq n ds F (ds.drop (i+1)) sd'
      | .ct sd'=>zbq n ds F (ds.drop (i+1)) sd'
      | .bk sd'=>pure (.nx sd')
      | .rt d=>pure (.rt d):M Out))) h2):=by
     rw [show F d sd2=(do let sd1<-g d sd2;gb sd1) by rw [<- hF]]
     show M.bind (M.bind (g d sd2) gb) _ h2=M.bind (g d sd2) _ h2
     unfold M.bind
     cases g d sd2 h2<;>rfl
    rw [<- e]
    exact q2
   refine Fin.bind q5 fun sd6 h6 ι6 H6 e6 s6 hr6 q6 σ6 L6=> ?_
   refine ⟨ι6,h6,sd6,L6,hr6,Fin.bind q6 fun o h7 ι7 H7 e7 s7 hr7 q7=> ?_⟩
   have st7:za6 ι1 H1 ι7 H7:=(s2.trans s6).trans s7
   cases o with
   | nx sd'=>exact fun σ' L'=>⟨hlt,ι7,h7,sd',st7,L',hr7,q7⟩
   | ct sd'=>exact fun σ' L'=>⟨hlt,ι7,h7,sd',st7,L',hr7,q7⟩
   | bk sd'=>exact fun σ' L'=>Fin.out (E:=E) (P:=zfp X.K D0) hr7 q7 σ' L'
   | rt d=>exact fun v rv=>Fin.out (E:=E) (P:=zfp X.K D0) hr7 q7 v rv
  ·left
   have e:i=ds.length:=by omega
   subst e
   rw [List.drop_length,zbq] at q2
   obtain ⟨hc,q2⟩:=zhz q2
   obtain ⟨vs2,ev2,rlv⟩:=fact hc
   refine ⟨⟨vs2,.inl (.inl ev2),by rw [rlv.length];exact qaV _⟩,?_⟩
   exact Fin.out (E:=E) (P:=zfp X.K D0) hr2 q2 σ2 L2
 | _=>exact qa0 q1
end
end L3
namespace L2
open PySem PySem.Spec PyProof.Rows
section
variable {X:Cx}
noncomputable def atK (kvs:List (Key×V)) (k:Key):Option V:=(kvs.find? fun q=>decide (q.1=k)).map (·.2)
theorem ziX {kvs:List (Key×V)} {us:List (Key×Value)} (r:KV kvs us) {k:Key} {v:V} (e:atK kvs k=some v): ∃ w,valueAt us k=some w/\zbk v w:=by
 unfold KV at r
 induction r with
 | nil=>cases e
 | @cons p q ps qs h t ih=>
  by_cases hk:p.1=k
  ·have e2:atK (p::ps) k=some p.2:=by simp [atK,List.find?_cons,hk]
   rw [e2] at e
   cases e
   exact ⟨q.2,by simp [valueAt,List.find?_cons,h.1.symm.trans hk],h.2⟩
  ·have hk': ¬q.1=k:=fun z=>hk (h.1.trans z)
   have e2:atK (p::ps) k=atK ps k:=by simp [atK,List.find?_cons,hk]
   rw [e2] at e
   obtain ⟨w,hw,rw'⟩:=ih e
   exact ⟨w,by rw [<- hw];simp [valueAt,List.find?_cons,hk'],rw'⟩
theorem zpF:IxR X (fun x y H Q=> ∃ a kvs k v,x= .ref a/\y=kV k/\H a=some (.dK kvs)/\atK kvs k=some v/\Q v H):=by
 intro value slice pins s σ H x y v u Q I rx ry h hs
 obtain ⟨a,kvs,k,z,rfl,rfl,e,l,q⟩:=h
 cases rx
 obtain ⟨zz,hd,vs,rel,dd⟩:=(show zbb X.prog X.w H s.heap a (.dK kvs) from I.hok a _ e)
 obtain ⟨w',hw,rw'⟩:=ziX rel l
 exact tail_any dd.typeIs slot_dict_getitem.lookup (wpAny_getItem_of (zo6 ry) dd.mapOf hw ⟨z,H,I.tok _,rw',q⟩) hs
end
end L2
namespace L3
open PySem PySem.Spec PyProof.Rows L2
section
variable {X:L2.Cx} {E:XE}
noncomputable def zdG (kvs:List (Int×D)) (k:Int):Option D:=(kvs.find? fun p=>p.1==k).map (·.2)
noncomputable def zqT (x y:D):M D:=match x,y with
 | .cel n,.int k=>do let kvs<-zgw n;ofO (zdG kvs k)
 | _,_=>M.bad
theorem zlM {K:W.Frag} {ι:Io} {H:Hp}: ∀ {kvs:List (Int×D)} {vs:List (Key×V)},Paired (fun (p:Int×D) (q:Key×V)=>q.1= .inl p.1/\Rel K ι H p.2 q.2) kvs vs-> ∀ {k:Int} {d:D},zdG kvs k=some d-> ∃ v,atK vs (.inl k)=some v/\Rel K ι H d v:=by
 intro kvs vs r
 induction r with
 | nil=>intro k d e;cases e
 | @cons p q ps qs h t ih=>
  intro k d e
  by_cases hk:p.1=k
  ·have e2:zdG (p::ps) k=some p.2:=by simp [zdG,List.find?_cons,hk]
   rw [e2] at e
   cases e
   exact ⟨q.2,by simp [atK,List.find?_cons,h.1,hk],h.2⟩
  ·have e2:zdG (p::ps) k=zdG ps k:=by simp [zdG,List.find?_cons,hk]
   rw [e2] at e
   obtain ⟨v,hv,rv⟩:=ih e
   have hk': ¬q.1=(.inl k:Key):=fun z=>hk (by rw [h.1] at z;injection z)
   exact ⟨v,by rw [<- hv];simp [atK,List.find?_cons,hk'],rv⟩
theorem zsP:IxR X (zdq X.K E zqT):=by
 refine IxR.imp zpF fun x y H Q ⟨ι,h,d1,d2,r1,r2,hr,q⟩=> ?_
 cases d2 with
 | int k=>
  cases d1 with
  | cel n=>
   simp only [Rel] at r1 r2
   obtain ⟨a,rfl,hn⟩:=r1
   have q4:Fin X.K E ι H (M.bind (zgw n) (fun kvs=>L3.ofO (zdG kvs k)) h) (fun d ι' H'=> ∀ v,Rel X.K ι' H' d v->Q v H'):=q
   unfold M.bind zgw at q4
   rcases hn with hn | hn
   ·have hl:=hr.len
    have hlt:=(qac.mp hn).1
    obtain ⟨c,hc⟩: ∃ c,h[n]? = some c:=⟨h[n],by simp [hl,hlt]⟩
    rw [hc] at q4
    obtain ⟨ob,e3,co⟩:=hr.at_ n a c hn hc
    cases c with
    | dic kvs=>
     obtain ⟨vs,rfl,rp⟩:=co
     obtain ⟨d,ed,q5⟩:=Fin.ofO hr q4
     obtain ⟨v,ev,rv⟩:=zlM rp ed
     exact ⟨a,vs,.inl k,v,rfl,r2,e3,ev,q5 v rv⟩
    | lst ds=>exact qa0 q4
    | dit ks=>exact qa0 q4
    | ins _ _=>exact qa0 q4
    | dead=>exact qa0 q4
   ·rw [hr.dead n hn] at q4
    exact qa0 q4
  | _=>exact qa0 q
 | _=>cases d1<;>exact qa0 q
theorem zrf {a b:Expr} {fa fb:FE} {pos:Pos} (ha:SE X E a fa) (hb:SE X E b fb) (hs:zfi b:=by intro _ _;rfl):SE X E (.Subscript a b pos) (cOp zqT fa fb):=zqG zsP ha hb hs
end
section
variable {X:L2.Cx} {E:XE}
end
end L3
namespace L2
open PySem PySem.Spec PyProof.Rows
section
variable {X:Cx}
end
end L2
namespace L3
open PySem PySem.Spec PyProof.Rows L2
section
variable {X:L2.Cx} {E:XE}
end
end L3
namespace L3
open PySem
open Sem (wp)
section
variable {prog:Program} {w:World} {A:Around} {E:Value->Shared->Prop} {s:Shared}
end
section
variable {prog:Program} {w:World} {A:Around} {E:Value->Shared->Prop} {s:Shared}
end
end L3
namespace L2
open PySem PySem.Spec PyProof.Rows
section
variable {X:Cx} {pins:List (Addr×Obj)} {σ:St} {H:Hp} {s:Shared} {h':Heap}
end
section
variable {X:Cx} {elts:List Expr} {k:Nat} {tpos:Pos}
end
end L2
namespace L3
open PySem PySem.Spec PyProof.Rows L2
section
variable {X:Cx} {E:XE} {elts:List Expr} {k:Nat} {tpos pos:Pos}
end
end L3
namespace L2
open PySem PySem.Spec PyProof.Rows
section
variable {X:Cx}
end
end L2
namespace L3
open PySem PySem.Spec PyProof.Rows L2
section
variable {X:L2.Cx} {E:XE}
end
end L3
namespace L3
open PySem
open Sem (wp)
section
variable {prog:Program} {w:World} {A:Around} {E:Value->Shared->Prop} {s:Shared}
theorem zgc {l:Addr} {xs:Array Value} {k:Nat} {Q:Option Value->Shared->Prop} (hA:A.handled=none) (hx:s.heap.get? l=some {cls:= .type "list",data:= .seq xs k})
  (h: ∀ h' tk,(∀ b o,s.heap.get? b=some o->h'.get? b=some o)->Q none {s with heap:=h',toks:=tk}):wpAny (model prog w) A (getAttr? (.ref l) "keys") Q E s:=by
 obtain ⟨hp,g,d,tk,os⟩:=s
 have hT: ∀ tk',(⟨hp,g,d,tk',os⟩:Shared).TypeIs (.ref l) "list":=fun _=>⟨_,hx,rfl⟩
 have f1:=sub_AttributeError
 have f3:=F.slot_list_getattribute.lookup
 have f4:=F.slot_list_getattribute.bind (.ref l)
 have f5:=am_list_getattr_none
 have hmiss:typeLookup (.type "list") "keys"=pure none:=by rw [typeLookup_type,builtinLookup_eq_fast];kernel_rfl
 unfold getAttr? getAttrBy? getAttrBy
 repeat (any_goals (first | assumption | exact hT _ | ((with_reducible show wpAny _ _ (call (Value.builtin "list.__getattribute__") _ _) _ _ _);refine call_meets F.slot_list_getattribute (hT _) am_entry_list_getattribute (F.args_list_getattribute_2 _ _) (meets_getattribute_miss_list l xs k #[] "keys" _ hmiss (by decide +kernel) (by size_fits)) ⟨hx,hA,fun h' tk' e hx'=> ?_⟩) | wp_step))
 obtain ⟨t',u',he⟩:=hx'.there
 show wpAny _ _ (getattributeRaised _ _ _ _ _ _ _) _ _ _
 unfold getattributeRaised
 repeat (any_goals (first | assumption | wp_step))
 exact h _ _ hx'.keeps
theorem zgh:entryFor table "dict.update.loop"=some Builtin.«dict.update.loop» := entryFor_of_tree (by kernel_rfl)
theorem zdg:plainId "dict.update.loop"=true:=by decide +kernel
def zqo (prog:Program) (w:World) (A:Around) (d:Addr) (h0:Heap) (St:Nat->Heap->Prop) (i:Nat) (x:Value):Prop:=
 ∃ p k v n dd sl,x= .ref p/\h0.get? p=some {cls:= .type "tuple",dict:=dd,data:= .seq #[k,v] n,slots:=sl}/\
  ∀ (s:Shared) (Q:Unit->Shared->Prop) (E:Value->Shared->Prop),St i s.heap->(∀ b o,h0.get? b=some o->s.heap.get? b=some o)->(∀ h' tk,St (i+1) h'->Heap.SameBut d s.heap h'->Q () {s with heap:=h',toks:=tk})->wpAny (model prog w) A (dictSet d k v) Q E s
theorem zlD {d it l:Addr} {items:Array Value} {h0:Heap} {St:Nat->Heap->Prop} {R:Result->Shared->Prop} (hh:A.handled=none) (hl:h0.IsList l items) (h0d: ∀ b o,h0.get? b=some o->b≠d/\b≠it) (hdi:d≠it)
  (fr: ∀ i h h',St i h->(∀ b o,b≠it->h.get? b=some o->h'.get? b=some o)->St i h') (pr: ∀ i x,items[i]? = some x->zqo prog w A.in1 d h0 St i x):
  ∀ (k i:Nat) (s:Shared),items.size - i=k->i<=items.size->St i s.heap->s.heap.IsListIter it l i->(∀ b o,h0.get? b=some o->s.heap.get? b=some o)->
  (∀ h' tk,St items.size h'->(∀ b o,b≠d->b≠it->s.heap.get? b=some o->h'.get? b=some o)->R (.ok (.ret .none)) {s with heap:=h',toks:=tk})->
  codeAny (model prog w) A (.builtin "dict.update.loop" ⟨[.ref d,.ref it,rawInt i,.none],[]⟩) R s:=by
 intro k
 induction k with
 | zero=>
  intro i s hk hi hst hit hx hR
  have hin:i=items.size:=by omega
  have hls:s.heap.IsList l items:=by obtain ⟨o,e,r⟩:=hl;exact ⟨o,hx _ _ e,r⟩
  refine codeAny_builtin zgh ?_
  rw [qap zdg _]
  show wpAny _ A.in1 (pyNext (.ref it)>>=_) _ _ s
  refine qaW (wpAny_pyNext_list_end (A:=A.in1) hh hit hls (by rw [hin];simp) fun h' hx'=> ?_)
  show wpAny _ _ (Builtin.Dict.addKeywords d []>>=_) _ _ _
  refine qaW (qaX (qaX ?_))
  exact hR h' _ (fr _ _ _ (hin▸hst) fun b o hb e=>hx' b o hb e) fun b o _ hb e=>hx' b o hb e
 | succ k ih=>
  intro i s hk hi hst hit hx hR
  have hlt:i<items.size:=by omega
  have hls:s.heap.IsList l items:=by obtain ⟨o,e,r⟩:=hl;exact ⟨o,hx _ _ e,r⟩
  obtain ⟨p,key,v,n,dd,sl,ex,ep,put⟩:=pr i items[i] (by simp [hlt])
  refine codeAny_builtin zgh ?_
  rw [qap zdg _]
  show wpAny _ A.in1 (pyNext (.ref it)>>=_) _ _ s
  refine qaW (wpAny_pyNext_list_item hit hls (x:= .ref p) (by rw [<- ex];simp [hlt]) fun h1 hit1 hs1=> ?_)
  have hx1: ∀ b o,h0.get? b=some o->h1.get? b=some o:=fun b o e=>hs1.extBut _ _ (h0d b o e).2 (hx b o e)
  have hp1:=hx1 _ _ ep
  refine qaW (qaO (qaW (wpAny_tryCatch ?_)))
  unfold Builtin.Dict.pairItems
  refine qaW (wpAny_typeOf (T:="tuple") ⟨_,hp1,rfl⟩ ?_)
  simp only [beq_self_eq_true,Bool.or_true,if_true]
  refine qaW (wpAny_seqItems hp1 rfl (qaX ?_))
  show wpAny _ _ (holding [key,v] (dictSet d key v)) _ _ _
  refine qaO (put _ _ _ (fr _ _ _ hst fun b o hb e=>hs1.extBut _ _ hb e) hx1 fun h2 tk hst2 hs2=> ?_)
  refine qaX ⟨plainId_quiet zdg _,?_⟩
  show codeAny _ A (.builtin "dict.update.loop" ⟨[.ref d,.ref it,rawInt ((i:Int)+1),.none],[]⟩) _ _
  rw [show ((i:Int)+1)=((i+1:Nat):Int) by omega]
  refine ih (i+1) _ (by omega) hlt hst2 (hit1.extBut hs2.extBut (Ne.symm hdi)) (fun b o e=>hs2.extBut _ _ (h0d b o e).1 (hx1 b o e)) fun h3 tk3 hst3 hk3=> ?_
  exact hR h3 tk3 hst3 fun b o hbd hbi e=>hk3 b o hbd hbi (hs2.extBut _ _ hbd (hs1.extBut _ _ hbi e))
theorem zi7 {l:Addr} {items:Array Value} {k:Nat} {St:Nat->Heap->Prop} {Q:Value->Shared->Prop} (hA:A.handled=none) (hx:s.heap.get? l=some {cls:= .type "list",data:= .seq items k})
  (st0:St 0 (s.heap.push {cls:= .type "dict",data:= .dict #[]}))
  (fr: ∀ i h h',St i h->(∀ b o,(b=s.heap.objs.size\/ ∃ o',s.heap.get? b=some o')->h.get? b=some o->h'.get? b=some o)->St i h')
  (pr: ∀ i x,items[i]? = some x->zqo prog w A.in1.in1 s.heap.objs.size s.heap St i x)
  (h: ∀ h' tk,St items.size h'->(∀ b o,s.heap.get? b=some o->h'.get? b=some o)->Q (.ref s.heap.objs.size) {s with heap:=h',toks:=tk}):
  wpAny (model prog w) A (call (.type "dict") [.ref l]) Q E s:=by
 refine callType_codes (Q₁:=fun obj s₁=>obj= .ref s.heap.objs.size/\s₁={s with heap:=s.heap.push {cls:= .type "dict",data:= .dict #[]}}) F.kt_called_dict (F.kt_typeCall_dict_1 _) F.entry_dict_init (kt_code_dict_new _ ⟨rfl,rfl⟩) ?_
 rintro obj s₁ ⟨rfl,rfl⟩
 have hd:(s.heap.push {cls:= .type "dict",data:= .dict #[]}).get? s.heap.objs.size=some {cls:= .type "dict",data:= .dict #[]}:=qar _ rfl
 have hx1:(s.heap.push {cls:= .type "dict",data:= .dict #[]}).get? l=some {cls:= .type "list",data:= .seq items k}:=qag _ hx
 refine ⟨⟨_,hd,rfl⟩,F.args_dict_init_2 _ _,?_⟩
 unfold Builtin.«dict.__init__»
 refine qaW ?_
 unfold Builtin.Dict.selfAndRest
 refine qaW (wpAny_notOrdered_dict ⟨_,hd,rfl⟩ ?_)
 show wpAny _ _ (pure (s.heap.objs.size,[Value.ref l])) _ _ _
 refine qaX ?_
 show wpAny _ _ (Builtin.Dict.updateFrom "dict.__init__" s.heap.objs.size (.ref l) [] .none) _ _ _
 unfold Builtin.Dict.updateFrom
 refine qaW (wpAny_typeOf (T:="list") ⟨_,hx1,rfl⟩ ?_)
 rw [qa4 (by decide)]
 refine qaW (zgc (A:=A.in1.in1) hA hx1 fun h1 tk hk1=> ?_)
 simp only [Option.isNone_none,if_true]
 refine qaW (wpAny_rule ?_)
 have hl1:h1.IsList l items:=⟨_,hk1 _ _ hx1,rfl,k,rfl⟩
 refine qaW (wpAny_pyIter_list (s:={s with heap:=h1,toks:=tk}) hl1 ?_)
 refine qaX ⟨plainId_quiet zdg _,?_⟩
 have hlt:s.heap.objs.size<h1.objs.size:=qaQ (hk1 _ _ hd)
 have old: ∀ b o,s.heap.get? b=some o->h1.get? b=some o:=fun b o e=>hk1 _ _ (qag _ e)
 have hne: ∀ b o,s.heap.get? b=some o->b≠s.heap.objs.size/\b≠h1.objs.size:=fun b o e=>⟨qaR (qaQ e),qaR (qaQ (old b o e))⟩
 refine zlD (A:=A.in1) (d:=s.heap.objs.size) (it:=h1.objs.size) (l:=l) (items:=items) (h0:=s.heap) (St:=St) hA ⟨_,hx,rfl,k,rfl⟩ hne (qaR hlt) (fun i h h' hst hk=>fr i h h' hst fun b o hb e=> ?_) pr _ 0 _ rfl (Nat.zero_le _)
  (fr 0 _ _ st0 fun b o _ e=>qag _ (hk1 _ _ e)) ⟨_,qar _ rfl,rfl,rfl⟩ (fun b o e=>qag _ (old b o e)) fun h2 tk2 hst2 hk2=> ?_
 ·refine hk b o ?_ e
  rcases hb with rfl | ⟨o',e'⟩
  ·exact qaR hlt
  ·exact (hne b o' e').2
 ·exact ⟨rfl,h h2 tk2 hst2 fun b o e=>hk2 b o (hne b o e).1 (hne b o e).2 (qag _ (old b o e))⟩
end
end L3
namespace L2
open PySem PySem.Spec PyProof.Rows
section
variable {X:Cx}
theorem Inv.sysI {pins:List (Addr×Obj)} {σ:St} {H:Hp} {s:Shared} (I:Inv X pins σ H s):sysModules<s.heap.objs.size:=by
 have h:mainGlobals<s.heap.objs.size:=(I.mod.glob.keeps I.bk).lt
 exact Nat.lt_trans (by decide) h
noncomputable def zdV (zs:List (Int×V)):List (Key×V):=zs.foldl (fun kvs z=>zkq kvs (.inl z.1) z.2) []
theorem zgY (zs:List (Int×V)) (z:Int×V):zdV (zs++[z])=zkq (zdV zs) (.inl z.1) z.2:=by
 unfold zdV
 rw [List.foldl_append]
 rfl
theorem ze8 (zs:List (Int×V)):(zdV zs).length<=zs.length:=by
 have key: ∀ (zs:List (Int×V)) (kvs:List (Key×V)),(zs.foldl (fun kvs z=>zkq kvs (.inl z.1) z.2) kvs).length<=kvs.length+zs.length:=by
  intro zs
  induction zs with
  | nil=>intro kvs;exact qaV _
  | cons z zs ih=>
   intro kvs
   have h1:=ih (zkq kvs (.inl z.1) z.2)
   have h2:=zg1 kvs (.inl z.1) z.2
   rw [List.foldl_cons,qaE]
   omega
 have:=key zs []
 rw [qaJ,Nat.zero_add] at this
 exact this
theorem zjp (hc:X.calm=true):zaD X (.type "dict") (fun xs H Q=> ∃ (a:Addr) (zs:List (Addr×Int×V)),xs=[V.ref a]/\H a=some (.lst (zs.map fun z=>V.ref z.1))/\
    (∀ z∈zs,H z.1=some (.tup [.int z.2.1,z.2.2]))/\ ∀ p,H p=none->Q (.ref p) (upd H p (.dK (zdV (zs.map (·.2)))))):=by
 intro pins s σ H xs us Q I r h
 obtain ⟨a,zs,rfl,hH,hz,q⟩:=h
 obtain ⟨u,rfl,ru⟩:=zcI r
 cases ru
 obtain ⟨zl,its,n,rv,hl,e⟩:=I.lstM hH
 have hlen:zs.length=its.length:=by rw [<- hl,qaH]
 have zl:zs.length<=sizeLine:=by rw [qaH] at zl;exact zl
 refine L3.zi7 (A:=X.A) (s:=s) (l:=a) (items:=its.toArray) (k:=n) (St:=fun i h=> ∃ vs,KV (zdV ((zs.take i).map (·.2))) vs/\h.DictOf (zdD X.prog X.w) s.heap.objs.size vs) (I.ok.hd hc) e ?_ ?_ ?_ ?_
 ·exact ⟨[],.nil,Heap.DictOf.new _⟩
 ·rintro i h h' ⟨vs,kv,o,es,ep,h1,r⟩ hk
  exact ⟨vs,kv,o,es,ep,hk _ o (.inl rfl) h1,r⟩
 ·intro i x hx
  have hi:i<zs.length:=by
   have:i<its.toArray.size:=(qab.mp hx).1
   rw [qaA] at this
   omega
  have hmem:zs[i]∈zs:=List.getElem_mem hi
  obtain ⟨u,hu1,ru1⟩:=rv.get (i:=i) (x:= .ref zs[i].1) (by simp [hi])
  have hxu:x=u:=by
   have:its[i]? = some x:=by simpa using hx
   rw [hu1] at this
   exact (Option.some.inj this).symm
  have hxr:x= .ref zs[i].1:=by rw [hxu];exact ru1
  obtain ⟨_,its2,r2,⟨cc,dd,dt,sl⟩,o1,o2,m,o3,o4⟩:=(show zbb X.prog X.w H s.heap zs[i].1 (.tup [.int zs[i].2.1,zs[i].2.2]) from I.hok _ _ (hz _ hmem))
  dsimp only at o2 o3
  subst o2 o3
  obtain ⟨u1,u2,rfl,k1,k2⟩:=r2.two
  refine ⟨zs[i].1,u1,u2,m,dd,sl,hxr,o1,fun s' Q' E' hst hold k=> ?_⟩
  obtain ⟨vs,kv,dd'⟩:=hst
  have hz':vs.length<=sizeLine:=by
   rw [<- kv.length]
   have:=ze8 ((zs.take i).map (·.2))
   rw [qaH,List.length_take] at this
   omega
  refine wpAny_dictSet_pairs (hsz:=hz') (zo6 (k:= .inl zs[i].2.1) k1) dd' fun h' d2 sb=>k h' _ ⟨_,?_,d2⟩ sb
  rw [List.take_succ,qaf hi,Option.toList_some,List.map_append,List.map_singleton,zgY]
  exact kv.put (.inl zs[i].2.1) k2
 ·rintro h' tk ⟨vs,kv,dd⟩ hk
  rw [show its.toArray.size=zs.length by simp;omega,List.take_length] at kv
  have fresh:=I.hok.fresh (qaV s.heap.objs.size)
  refine ⟨.ref s.heap.objs.size,_,I.laid (t':=tk) (h':=h') (a:=s.heap.objs.size) (o:= .dK (zdV (zs.map (·.2)))) hk (qaV _) ?_,rfl,q _ fresh⟩
  refine ⟨?_,by simpa using Nat.ne_of_gt I.sysI,vs,kv,dd⟩
  have:=ze8 (zs.map (·.2))
  rw [qaH] at this
  omega
noncomputable def vAt (kvs:List (Key×V)) (k:Key):Option V:=(kvs.find? fun kv=>decide (kv.1=k)).map (·.2)
end
end L2
namespace L3
open PySem PySem.Spec PyProof.Rows L2
section
variable {X:L2.Cx} {E:XE}
noncomputable def zhL (kvs:List (Int×D)):M D:=fun h=> .ok (.cel h.length) (h++[.dic kvs])
noncomputable def pr1:D->Option (Int×D)
 | .tup [.int k,d]=>some (k,d)
 | _=>none
noncomputable def prs:List D->Option (List (Int×D))
 | []=>some []
 | d::r=>(pr1 d).bind fun p=>(prs r).map (p:: ·)
noncomputable def zeT (ps:List (Int×D)):List (Int×D):=ps.foldl (fun kvs p=>zmh kvs p.1 p.2) []
noncomputable def znS:List D->M D:=zmu fun d=>match d with
 | .lst ds=>do
  let ps<-ofO (prs ds)
  zhL (zeT ps)
 | _=>M.bad
theorem zof {d:D} {p:Int×D} (e:pr1 d=some p):d= .tup [.int p.1,p.2]:=by
 unfold pr1 at e
 split at e
 ·cases e;rfl
 ·cases e
theorem zl6 {K:W.Frag} {ι:Io} {H:Hp}: ∀ {ds:List D} {vs:List V} {ps:List (Int×D)},zam K ι H ds vs->prs ds=some ps->
  ∃ zs:List (Addr×Int×V),vs=zs.map (fun z=>V.ref z.1)/\(∀ z∈zs,H z.1=some (.tup [.int z.2.1,z.2.2]))/\Paired (fun (p:Int×D) (z:Addr×Int×V)=>z.2.1=p.1/\Rel K ι H p.2 z.2.2) ps zs
 | [],vs,ps,h,e=>by
  simp only [zam] at h
  subst h
  cases e
  exact ⟨[],rfl,(fun z hz=>nomatch hz),.nil⟩
 | d::r,vs,ps,h,e=>by
  simp only [zam] at h
  obtain ⟨v,r',rfl,h1,h2⟩:=h
  unfold prs at e
  cases z:pr1 d with
  | none=>rw [z] at e;cases e
  | some p=>
   rw [z] at e
   cases z2:prs r with
   | none=>rw [z2] at e;cases e
   | some ps'=>
    rw [z2] at e
    cases e
    obtain ⟨zs,g1,g2,g3⟩:=zl6 h2 z2
    have ed:=zof z
    subst ed
    simp only [Rel] at h1
    obtain ⟨a,us,rfl,ha,ru⟩:=h1
    simp only [zam,Rel] at ru
    obtain ⟨u1,t1,rfl,ru1,u2,t2,rfl,ru2,rfl⟩:=ru
    subst ru1
    refine ⟨(a,p.1,u2)::zs,by rw [qaM,g1],fun y hy=> ?_,.cons ⟨rfl,ru2⟩ g3⟩
    rcases qaP.mp hy with rfl | hy
    ·exact ha.1
    ·exact g2 y hy
theorem zlb {K:W.Frag} {ι:Io} {H:Hp} {ps:List (Int×D)} {zs:List (Addr×Int×V)} (r:Paired (fun (p:Int×D) (z:Addr×Int×V)=>z.2.1=p.1/\Rel K ι H p.2 z.2.2) ps zs):
  Paired (fun (p:Int×D) (q:Key×V)=>q.1= .inl p.1/\Rel K ι H p.2 q.2) (zeT ps) (zdV (zs.map (·.2))):=by
 have key: ∀ {ps:List (Int×D)} {zs:List (Addr×Int×V)},Paired (fun (p:Int×D) (z:Addr×Int×V)=>z.2.1=p.1/\Rel K ι H p.2 z.2.2) ps zs-> ∀ {kvs:List (Int×D)} {vs:List (Key×V)},Paired (fun (p:Int×D) (q:Key×V)=>q.1= .inl p.1/\Rel K ι H p.2 q.2) kvs vs->
   Paired (fun (p:Int×D) (q:Key×V)=>q.1= .inl p.1/\Rel K ι H p.2 q.2) (ps.foldl (fun kvs p=>zmh kvs p.1 p.2) kvs) ((zs.map (·.2)).foldl (fun kvs z=>zkq kvs (.inl z.1) z.2) vs):=by
  intro ps zs r
  induction r with
  | nil=>intro kvs vs h;exact h
  | @cons p z ps zs hh t ih=>
   intro kvs vs h
   rw [List.foldl_cons,qaM,List.foldl_cons,hh.1]
   exact ih (zog h hh.2)
 exact key r .nil
theorem ziq (hc:X.calm=true):zaD X (.type "dict") (zhs X.K E znS):=by
 refine zaD.imp (zjp hc) fun xs H Q ⟨ι,h,ds,rl,hr,q⟩=> ?_
 obtain ⟨d,v,e,r,q⟩:=zcb rl q
 cases d with
 | lst ds=>
  obtain ⟨ps,ek,q⟩:=Fin.ofOb q
  simp only [Rel] at r
  obtain ⟨a,vs,rfl,ha,r2⟩:=r
  obtain ⟨zs,g1,g2,g3⟩:=zl6 r2 ek
  refine ⟨a,zs,by rw [e],by rw [<- g1];exact ha.1,g2,fun p hp=> ?_⟩
  exact zp5 (E:=E) hr (c0:= .dic (zeT ps)) ⟨_,rfl,zlb g3⟩ q hp
 | _=>exact qa0 q
noncomputable def atK (kvs:List (Int×D)) (k:Int):Option D:=(kvs.find? fun p=>decide (p.1=k)).map (·.2)
theorem ziX {K:W.Frag} {ι:Io} {H:Hp} {kvs:List (Int×D)} {vs:List (Key×V)} (r:Paired (fun (p:Int×D) (q:Key×V)=>q.1= .inl p.1/\Rel K ι H p.2 q.2) kvs vs) (k:Int) {d:D} {v:V} (rd:Rel K ι H d v):
  Rel K ι H ((atK kvs k).getD d) ((vAt vs (.inl k)).getD v):=by
 unfold atK vAt
 induction r with
 | nil=>exact rd
 | @cons p q ps qs h t ih=>
  rw [List.find?_cons,List.find?_cons,h.1]
  by_cases e:p.1=k
  ·rw [decide_eq_true e,decide_eq_true (by rw [e])];exact h.2
  ·rw [decide_eq_false e,decide_eq_false (fun z=>e (by injection z))];exact ih
variable {o e1 e2:Expr} {cpos apos:Pos} {fo:FE} {fs:FA}
end
noncomputable def zm9 (f:Str) (d:D):List (Str×D)->List (Str×D)
 | []=>[(f,d)]
 | (g,x)::r=>if g=f then (g,d)::r else (g,x)::zm9 f d r
structure zsW (K:W.Frag) (c:String) (C:Addr) (names:List Str):Prop where
 at_:W.nsIn K mainGlobals (c:Str)=some (some (.ref C))
 cls:Cls K C
 no: ∀ f∈names,zpk K C f
structure Fm (K:W.Frag) (C:Addr) (m q:Str) (st:Stmt) (a:Addr) (d:FuncData):Prop where
 at_:W.findIn K (.ref C) m=some (some (.ref a))
 fn:W.isFn K (.ref a)=true
 F:Fun K m q st a d
noncomputable abbrev FR (K:W.Frag) (ι:Io) (H:Hp):=Paired (fun (p:Str×D) (q:Str×V)=>q.1=p.1/\Rel K ι H p.2 q.2)
section
variable {K:W.Frag} {ι:Io} {H:Hp}
theorem FR.look {fs:List (Str×D)} {vs:List (Str×V)} (r:FR K ι H fs vs) (f:Str):(∃ d v,fs.lookup f=some d/\vs.lookup f=some v/\Rel K ι H d v)\/(fs.lookup f=none/\vs.lookup f=none):=by
 induction r with
 | nil=>exact .inr ⟨rfl,rfl⟩
 | @cons p q ps qs h t ih=>
  obtain ⟨a,d⟩:=p
  obtain ⟨b,v⟩:=q
  obtain ⟨h1,h2⟩:=h
  dsimp only at h1 h2
  subst h1
  rw [List.lookup_cons,List.lookup_cons]
  cases e:(f==b) with
  | true=>exact .inl ⟨d,v,rfl,rfl,h2⟩
  | false=>exact ih
theorem FR.put {fs:List (Str×D)} {vs:List (Str×V)} (r:FR K ι H fs vs) (f:Str) {d:D} {v:V} (rd:Rel K ι H d v):FR K ι H (zm9 f d fs) (zrh f v vs):=by
 induction r with
 | nil=>exact .cons ⟨rfl,rd⟩ .nil
 | @cons p q ps qs h t ih=>
  obtain ⟨a,d'⟩:=p
  obtain ⟨b,v'⟩:=q
  obtain ⟨h1,h2⟩:=h
  dsimp only at h1 h2
  subst h1
  unfold zm9 zrh
  by_cases e:b=f
  ·rw [qa4 e,qa4 e];exact .cons ⟨rfl,rd⟩ t
  ·rw [qa5 e,qa5 e];exact .cons ⟨rfl,h2⟩ ih
end
section
variable {X:Cx} {E:XE} {o e v:Expr} {es:List Expr} {pos p cpos apos:Pos} {fo fe fv:FE} {fs:FA} {x m f:Str} {c:String} {C:Addr} {names:List Str}
section
variable {k n:Nat} {g:Addr} {fd:FuncData} {ps:List Str} {F:List D->M D} {pl:Sem Bool}
end
end
end L3
namespace L2
open PySem PySem.Spec PyProof.Rows L3
section
variable {X:Cx} {e:Expr} {te:TE} {pos p2:Pos}
def TAt (h:Heap) (v:Value) (p:List Int):Prop:= ∃ (a:Addr) (its:List Value),v= .ref a/\IsTup h a its.toArray/\IntsAre its p
theorem TAt.keep {h h':Heap} {v:Value} {p:List Int} (k: ∀ b o,h.get? b=some o->h'.get? b=some o):TAt h v p->TAt h' v p:=fun ⟨a,its,e,⟨o,x1,x2⟩,z⟩=>⟨a,its,e,⟨o,k _ _ x1,x2⟩,z⟩
end
end L2
namespace L3
open PySem PySem.Spec PyProof.Rows L2
section
variable {X:Cx} {E:XE}
theorem zam.dropLast {K:W.Frag} {ι:Io} {H:Hp} {ds:List D} {vs:List V} (h:zam K ι H ds vs):zam K ι H ds.dropLast vs.dropLast:=by
 have hl:=h.length
 rw [List.dropLast_eq_take,List.dropLast_eq_take,hl]
 exact h.take _
variable {o:Expr} {cpos apos:Pos} {fo:FE}
end
end L3
section
end
namespace PySem
open AutoSeq1 (wpAny_loadPart')
theorem zdv (l:Addr) (items:Array Value) (n:Nat) (dd:Option Addr) (sl:Array (Option Value)) (x:Value) (e:Value->Bool) (j:Nat) (hj:j<items.size)
  (hit:e items[j]=true) (hno: ∀ m (hm:m<items.size),m<j->e items[m]=false):
  Meets (Builtin.«tuple.index» ⟨[.ref l,x],[]⟩)
   (fun A R s=>s.heap.get? l=some {cls:= .type "tuple",dict:=dd,data:= .seq items n,slots:=sl}/\(∀ y,y∈items->SeqAt.EqAt A.in1 s y x (e y))/\R (.ok (.ret (.int j s.toks))) {s with toks:=s.toks+1}):=
 .of_wp fun prog w A R s h=>by
  obtain ⟨hp,g,d,tk,os⟩:=s;obtain ⟨hl,he,h⟩:=h
  wp_walk using wpAny_loadPart' hl
  change wpAny _ _ (forIn ([:min items.size items.size]:Std.Legacy.Range) (none,()) (fun (i:Nat) (__s:Option _×Unit)=>match items[i]? with
          | some y=>do
            let __do_lift<-eqBool y x
            if __do_lift=true then do
                let __do_lift<-retInt ((i:Nat):Int)
                pure (ForInStep.done (some __do_lift,()))
              else pure (ForInStep.yield (none,()))
          | x=>pure (ForInStep.yield (none,())))) _ _ _
  rw [Std.Legacy.Range.forIn_eq_forIn_range']
  simp only [Std.Legacy.Range.size,Nat.sub_zero,Nat.add_sub_cancel,Nat.div_one,Nat.min_self]
  refine wpAny_forIn_list _
   (fun rest b s'=>s'=⟨hp,g,d,tk,os⟩/\ ∃ i,rest=List.range' i (items.size - i)/\i<=j)
   _ ?_ ?_ _ _ ⟨rfl,0,by simp,Nat.zero_le _⟩
  ·rintro y rest b s' ⟨rfl,i,hr,hi⟩
   obtain ⟨rfl,hrest⟩:y=i/\rest=List.range' (i+1) (items.size - (i+1)):=by
    have e:items.size - i=(items.size - (i+1))+1:=by omega
    rw [e,List.range'_succ] at hr
    injection hr with h1 h2
    exact ⟨h1,h2⟩
   have hlt:y<items.size:=by omega
   rw [Array.getElem?_eq_getElem hlt]
   refine qaW (he _ (Array.getElem_mem hlt) prog w _ _ ?_)
   by_cases hy:y=j
   ·subst hy
    rw [hit]
    wp_walk
    exact ⟨_,rfl,h⟩
   ·rw [hno y hlt (by omega)]
    wp_walk
    exact ⟨rfl,y+1,hrest,by omega⟩
  ·rintro b s' ⟨rfl,i,hr,hi⟩
   have e:items.size - i=(items.size - (i+1))+1:=by omega
   rw [e,List.range'_succ] at hr
   cases hr
end PySem
namespace L2
open PySem PySem.Spec PyProof.Rows L3
section
variable {X:Cx}
theorem zgp:zaD X (.type "range") (fun xs H Q=> ∃ i j:Int,xs=[.int i,.int j]/\ ∀ p,H p=none->Q (.ref p) (upd H p (.rng i j))):=by
 intro pins s σ H xs us Q I r h
 obtain ⟨i,j,rfl,q⟩:=h
 obtain ⟨u,w',rfl,⟨t,rfl⟩,⟨t',rfl⟩⟩:=zlN r
 refine call_range_2 ?_
 exact ⟨.ref s.heap.objs.size,_,I.laid (t':=s.toks+1) (o:= .rng i j) (fun b ob q=>qag _ q) (qaV _) ⟨_,_,_,qar _ rfl⟩,rfl,q _ (I.hok.fresh (qaV _))⟩
theorem zjK {i j:Int} (h0:i<=j):Builtin.Range.rangeSize i j 1=((j - i).toNat:Int):=by
 unfold Builtin.Range.rangeSize
 rw [qa4 (by decide)]
 split
 ·rw [Int.ediv_one];omega
 ·omega
theorem zeQ (hc:X.calm=true):zaD X (.type "tuple") (fun xs H Q=> ∃ (p:Addr) (i j:Int),xs=[.ref p]/\H p=some (.rng i j)/\i<=j/\ -1000<=i/\j<1000/\ ∀ l,H l=none->Q (.ref l) (upd H l (.tup (((List.range (j - i).toNat).map fun (k:Nat)=>i+(k:Int)).map V.int)))):=by
 intro pins s σ H xs us Q I r h
 obtain ⟨p,i,j,rfl,hp,h0,h1,h2,q⟩:=h
 obtain ⟨u,rfl,rx⟩:=zcI r
 cases rx
 obtain ⟨t,u',v,hr⟩:=(show zbb X.prog X.w H s.heap p (.rng i j) from I.hok p _ hp)
 refine callType_new F.called_tuple (by decide) (F.typeCall_tuple_1 _) (F.newCall_tuple_1 _) (fun obj=>F.args_object_init_2 obj _) F.entry_tuple_new
  (zbs p i j 1 t u' v (j - i).toNat (small_one (by omega) (by omega) (by omega) (by omega)) (zjK h0) (by omega)) ⟨show X.A.in1.in1.handled=none from I.ok.hd hc,hr,fun h' tk acc hk hacc=>⟨⟨_,qar _ rfl,rfl⟩,?_⟩⟩
 have I1:Inv X pins σ H {s with heap:=h',toks:=tk}:=I.kept (t':=tk) hk
 have hl:acc.toList.length=(j - i).toNat:=by rw [qas];exact hacc.1
 have I2:=I1.laid (t':=tk) (h':=h'.push {cls:= .type "tuple",data:= .seq acc}) (a:=h'.objs.size) (o:= .tup (((List.range (j - i).toNat).map fun (k:Nat)=>i+(k:Int)).map V.int)) (fun b o e=>qag _ e) (qaV _)
  ⟨by rw [qaH,qaH,List.length_range];exact qaS (show (j - i).toNat<=2000 by omega) (by decide),acc.toList,zce _ _ (by rw [qaH,List.length_range,hl]) (fun k w e=> ?_),by simpa using zh7.new _ _⟩
 ·exact ⟨.ref h'.objs.size,_,I2,rfl,q _ (I1.hok.fresh (qaV _))⟩
 ·have hk':k<(j - i).toNat:=by rw [<- hl];exact (qac.mp e).1
  obtain ⟨t,et⟩:=hacc.2 k w (by simpa using e)
  refine ⟨t,?_⟩
  rw [et]
  simp [List.getD,hk']
theorem zjD:MtM X "list.insert" (fun x vs H Q=> ∃ l xs i y,x= .ref l/\vs=[.int i,y]/\H l=some (.lst xs)/\0<=i/\i<=xs.length/\xs.length+1<=sizeLine/\Q .non (upd H l (.lst (xs.take i.toNat++y::xs.drop i.toNat)))):=by
 intro pins s σ H x vs v us Q I rx rv h
 obtain ⟨l,xs,i,y,rfl,rfl,hH,h0,h1,hz,q⟩:=h
 cases rx
 obtain ⟨u,w',rfl,⟨t,rfl⟩,ry⟩:=zlN rv
 obtain ⟨z,its,n,r,hl,e⟩:=I.lstM hH
 have hs:sizeLine=2^24:=rfl
 refine call_meets F.slot_list_insert ⟨_,e,rfl⟩ F.entry_list_insert (F.args_list_insert_3 _ _ _)
  (AutoSeq1.list_insert_list_int_val_1 l its.toArray n i t w' (by rw [show Builtin.List.listFitsIndex i=true from by unfold Builtin.List.listFitsIndex;simp;omega];decide) (by rw [qaA];omega)) ⟨e,?_⟩
 refine ⟨.non,_,I.lset (its':=its.take i.toNat++w'::its.drop i.toNat) hH e ?_ ((r.take i.toNat).append (.cons ry (r.drop i.toNat))) ?_,rfl,q⟩
 ·have hlt: ¬i<0:=by omega
  have hm:min i.toNat its.length=i.toNat:=by omega
  apply Array.ext'
  simp [hlt,hm]
  rw [List.take_of_length_le (by rw [List.length_drop];omega)]
 ·simp
  omega
theorem zjl:MtR X "tuple.index" (fun x vs H Q=> ∃ (l:Addr) (ns:List Int) (n:Int) (j:Nat),x= .ref l/\vs=[.int n]/\SqT X.K H l (ns.map V.int)/\ns[j]? = some n/\(∀ m,m<j->ns[m]? ≠ some n)/\Q (.int (j:Int)) H):=by
 intro pins s σ H x vs v us Q I rx rv h
 obtain ⟨l,ns,n,j,rfl,rfl,hq,hj,hno,q⟩:=h
 cases rx
 obtain ⟨u,rfl,ru⟩:=zcI rv
 obtain ⟨tn,rfl⟩:=ru
 obtain ⟨its,r,pl,hz⟩:=I.tupleD hq
 obtain ⟨ob,e1,c1,n1,d1,g1⟩:=pl
 obtain ⟨cc,dd,dt,sl⟩:=ob
 dsimp only at c1 d1
 subst c1 d1
 have hget: ∀ (m:Nat) k,ns[m]? = some k-> ∃ t,its[m]? = some (Value.int k t):=fun m k hk=>by
  obtain ⟨u,hu,t,ht⟩:=r.get (i:=m) (x:=V.int k) (by simp [hk])
  exact ⟨t,by rw [hu,ht]⟩
 have hlen:=r.length
 rw [qaH] at hlen
 have hlt:j<ns.length:=(qac.mp hj).1
 refine call_meets F.slot_tuple_index ⟨_,e1,rfl⟩ F.entry_tuple_index (F.args_tuple_index_2 _ _)
  (zdv l _ n1 dd sl (.int n tn) (fun v=>match v with | .int i _=>i==n | _=>false) j (by simpa using hlen▸hlt) ?_ ?_) ⟨e1,fun y hy=> ?_,⟨.int j,H,I.tok _,⟨_,rfl⟩,q⟩⟩
 ·obtain ⟨t,ht⟩:=hget j n hj
  have:=(qac.mp ht).2
  simp [this]
 ·intro m hm hmj
  have hm':m<ns.length:=by omega
  obtain ⟨t,ht⟩:=hget m ns[m] (qaf hm')
  have h2:=(qac.mp ht).2
  have h3:=hno m hmj
  rw [qaf hm'] at h3
  simp only [List.getElem_toArray,h2]
  simpa using h3
 ·obtain ⟨m,hm,he⟩:=List.mem_iff_getElem.mp (List.mem_toArray.mp hy)
  have hm':m<ns.length:=by omega
  obtain ⟨t,ht⟩:=hget m ns[m] (qaf hm')
  have h2:=(qac.mp ht).2
  rw [<- he,h2]
  exact PySem.SeqAt.EqAt.int_int _ _ _ _
end
end L2
namespace L3
open PySem PySem.Spec PyProof.Rows L2 LT
section
variable {X:Cx} {E:XE} {a b o e e2:Expr} {fa fb fo fe fi:FE} {apos cpos:Pos}
noncomputable def zcF:D->D->M D
 | .int i,.int j=>if i<=j/\ -1000<=i/\j<1000 then pure (.tup (zcP i (j - i).toNat)) else M.bad
 | _,_=>M.bad
theorem zje {K:W.Frag} {ι:Io} {H:Hp} {i:Int} {n:Nat}:zam K ι H (zcP i n) (((List.range n).map fun (k:Nat)=>i+(k:Int)).map V.int):=by
 have:zcP i n=((List.range n).map fun (k:Nat)=>i+(k:Int)).map D.int:=by unfold zcP;simp
 rw [this]
 exact zbx.mpr rfl
theorem zd8 {p1 p2 pos pos2:Pos} (hc:X.calm=true) (hm1:X.mg "tuple"=none) (hm2:X.mg "range"=none) (ha:SE X E a fa) (hb:SE X E b fb) (hg1:Gl X "tuple":=by rfl) (hg2:Gl X "range":=by rfl)
  (h1:starEach [.Call (.Name "range" p2) [a,b] [] pos2] X.env=[(false,eval (.Call (.Name "range" p2) [a,b] [] pos2) X.env)]:=by rfl) (h2:starEach [a,b] X.env=(false,eval a X.env)::starEach [b] X.env:=by rfl) (h3:starEach [b] X.env=[(false,eval b X.env)]:=by rfl):
  SE X E (.Call (.Name "tuple" p1) [.Call (.Name "range" p2) [a,b] [] pos2] [] pos) (cOp zcF fa fb):=by
 refine PE.imp (za3 (zeQ hc) hg1 hm1 PyProof.Rows.boot_tuple (zaE (za3 zgp hg2 hm2 boot_range (zaE ha (zaE hb za8 h3) h2) (he:=h2) (hpl:=by rw [h3];rfl)) za8 h1) (he:=h1)) fun σ H Q ⟨ι,h,sd,L,hh,q⟩=>⟨ι,h,sd,L,hh,Fin.bind q fun d h1 ι1 H1 e1 s1 hr1 q1 v rv=> ?_⟩
 refine ⟨ι1,h1,sd,L.step s1,hr1,Fin.bind q1 fun d2 h2 ι2 H2 e2 s2 hr2 q2 w rw'=> ?_⟩
 unfold zcF at q2
 split at q2
 ·rename_i i j
  have rv2:=rv.step s2
  simp only [Rel] at rv2 rw'
  obtain ⟨⟨c1,c2,c3⟩,q3⟩:=Fin.guard q2
  refine ⟨i,j,by rw [rv2,rw'],fun p hp=> ?_⟩
  have hr3:zaQ X.K ι2 (upd H2 p (.rng i j)) h2:=hr2.laid hp
  exact ⟨p,i,j,rfl,zax,c1,c2,c3,fun l hl=>zmy hr3 zje (Fin.step (hr2.laidS hp) q3) hl⟩
 ·exact qa0 q2
noncomputable def zoi (x y:D):M D:=match x,y with
 | .tup ds,.int n=>do
  let ns<-ofO (zci ds)
  let j<-ofO (ns.findIdx? (· == n))
  pure (.int j)
 | _,_=>M.bad
noncomputable def znr (fo fe:FE):FE:=fun sd=>do
 let x<-fo sd
 match x with
 | .tup ds=>do
  let y<-fe sd
  zoi (.tup ds) y
 | _=>M.bad
theorem zlJ (ho:SE X E o fo) (he:SE X E e fe)
  (hbase:attributeBase o "index" X.env (eval o X.env)=eval o X.env:=by rfl)
  (hfew:((backTo cpos (starEach [e] X.env)).all (fun x=> !x.1) && (backToKw cpos (keywordEach [] X.env)).all (fun x=>x.1.isSome)
    && decide (([e]:List Expr).length+([]:List Keyword).length+(if ([]:List Keyword).isEmpty then 0 else 1)<30))=true:=by rfl)
  (hline:(apos.endLine==cpos.line)=true:=by rfl) (hs:starEach [e] X.env=(false,eval e X.env)::starEach [] X.env:=by rfl) (hplain:(backTo cpos (starEach [] X.env)).any (·.1)=false:=by rfl):
  SE X E (.Call (.Attribute o "index" apos) [e] [] cpos) (znr fo fe):=by
 refine PE.imp (zjv PySem.F.plainAttrs_tuple PySem.F.slot_tuple_index PySem.F.type_tuple_index zjl ho (zaE he za8 hs) hbase hfew hline hs hplain) fun σ H Q ⟨ι,h,sd,L,hh,q⟩=>⟨ι,h,sd,L,hh,Fin.bind q fun d h1 ι1 H1 e1 s1 hr1 q1 v rv=> ?_⟩
 cases d with
 | tup ds=>
  obtain ⟨a,vs,rfl,g1,g2⟩:=zcn rv
  refine ⟨.inr (.inl ⟨rfl,vs,g1⟩),ι1,h1,sd,L.step s1,hr1,Fin.bind q1 fun y h3 ι3 H3 e3 s3 hr3 q4 w rw'=> ?_⟩
  have rv3:=rv.step s3
  obtain ⟨a',vs',ea,k1,k2⟩:=zcn rv3
  cases ea
  cases y with
  | int n=>
   have q4:Fin X.K E ι3 H3 ((ofO (zci ds)>>=fun ns=>ofO (ns.findIdx? (· == n))>>=fun j=>pure (D.int (j:Int))) h3) (fun d ι' H'=> ∀ v,Rel X.K ι' H' d v->Q v H'):=q4
   obtain ⟨ns,en,q5⟩:=Fin.ofOb q4
   obtain ⟨j,ej,q6⟩:=Fin.ofOb q5
   have hv:=zcw k2 en
   subst hv
   simp only [Rel] at rw'
   subst rw'
   obtain ⟨h5,h6,h7⟩:=List.findIdx?_eq_some_iff_getElem.mp ej
   refine ⟨a,ns,n,j,rfl,rfl,k1,?_,fun m hm=> ?_,Fin.out hr3 q6 _ (by simp [Rel])⟩
   ·rw [qaf h5]
    simpa using h6
   ·rw [qaf (by omega)]
    simpa using h7 m hm
  | _=>exact qa0 q4
 | _=>exact qa0 q1
noncomputable def zeg (x i y:D):M D:=match x,i with
 | .cel n,.int k=>do
  let ds<-zaf n
  if 0<=k/\k<=ds.length/\ds.length<1000 then do
   za2 n (ds.take k.toNat++y::ds.drop k.toNat)
   pure .non
  else M.bad
 | _,_=>M.bad
noncomputable def zpD (fo fi fe:FE):FE:=fun sd=>do
 let x<-fo sd
 zcl x
 let i<-fi sd
 let y<-fe sd
 zeg x i y
theorem zlC (ho:SE X E o fo) (hi:SE X E e fi) (he:SE X E e2 fe)
  (hbase:attributeBase o "insert" X.env (eval o X.env)=eval o X.env:=by rfl)
  (hfew:((backTo cpos (starEach [e,e2] X.env)).all (fun x=> !x.1) && (backToKw cpos (keywordEach [] X.env)).all (fun x=>x.1.isSome)
    && decide (([e,e2]:List Expr).length+([]:List Keyword).length+(if ([]:List Keyword).isEmpty then 0 else 1)<30))=true:=by rfl)
  (hline:(apos.endLine==cpos.line)=true:=by rfl) (hs:starEach [e,e2] X.env=(false,eval e X.env)::starEach [e2] X.env:=by rfl) (hs2:starEach [e2] X.env=(false,eval e2 X.env)::starEach [] X.env:=by rfl) (hplain:(backTo cpos (starEach [e2] X.env)).any (·.1)=false:=by rfl):
  SE X E (.Call (.Attribute o "insert" apos) [e,e2] [] cpos) (zpD fo fi fe):=by
 refine PE.imp (zjv PySem.F.plainAttrs_list PySem.F.slot_list_insert PySem.F.type_list_insert zjD ho (zaE hi (zaE he za8 hs2) hs) hbase hfew hline hs hplain) fun σ H Q ⟨ι,h,sd,L,hh,q⟩=>⟨ι,h,sd,L,hh,Fin.bind q fun d h1 ι1 H1 e1 s1 hr1 q1 v rv=> ?_⟩
 cases d with
 | cel n=>
  have q2:Fin X.K E ι1 H1 ((zaf n>>=fun _=>fi sd>>=fun i=>fe sd>>=fun y=>zeg (.cel n) i y) h1) (fun d ι' H'=> ∀ v,Rel X.K ι' H' d v->Q v H'):=by
   have ee:(zcl (.cel n)>>=fun _=>fi sd>>=fun i=>fe sd>>=fun y=>zeg (.cel n) i y:M D)=(zaf n>>=fun _=>fi sd>>=fun i=>fe sd>>=fun y=>zeg (.cel n) i y):=by
    show ((zaf n>>=fun _=>pure ())>>=fun _=>fi sd>>=fun i=>fe sd>>=fun y=>zeg (.cel n) i y)=_
    simp only [bind_assoc,pure_bind]
   rw [<- ee]
   exact q1
  obtain ⟨ds,e2,q3⟩:=zdK q2
  obtain ⟨a,vs,rfl,hn,hH,rl⟩:=hr1.read rv e2
  refine ⟨.inl ⟨rfl,vs,SqL.of hH⟩,ι1,h1,sd,L.step s1,hr1,Fin.bind q3 fun i h2 ι2 H2 e2' s2 hr2 q4 vi ri=> ?_⟩
  refine ⟨ι2,h2,sd,(L.step s1).step s2,hr2,Fin.bind q4 fun y h3 ι3 H3 e3 s3 hr3 q5 w rw'=> ?_⟩
  have rv3:=(rv.step s2).step s3
  have ri3:=ri.step s3
  cases i with
  | int k=>
   have q6:Fin X.K E ι3 H3 ((zaf n>>=fun ds=>if 0<=k/\k<=ds.length/\ds.length<1000 then (za2 n (ds.take k.toNat++y::ds.drop k.toNat)>>=fun _=>pure D.non) else M.bad) h3) (fun d ι' H'=> ∀ v,Rel X.K ι' H' d v->Q v H'):=q5
   obtain ⟨ds3,e4,q7⟩:=zdK q6
   obtain ⟨a3,vs3,ea,hn3,hH3,rl3⟩:=hr3.read rv3 e4
   cases ea
   simp only [Rel] at ri3
   subst ri3
   have hlen:=rl3.length
   by_cases hk:0<=k/\k<=ds3.length/\ds3.length<1000
   ·rw [qa4 hk] at q7
    have hz:sizeLine=2^24:=rfl
    refine ⟨a,vs3,k,w,rfl,rfl,hH3,hk.1,by omega,by omega,?_⟩
    have q8:Fin X.K E ι3 H3 (R.ok D.non (h3.set n (.lst (ds3.take k.toNat++y::ds3.drop k.toNat)))) (fun d ι' H'=> ∀ v,Rel X.K ι' H' d v->Q v H'):=q7
    exact q8 ι3 _ (hr3.cellS hn3) (hr3.cell hn3 ((zam.take k.toNat rl3).append (zam.cons rw' (zam.drop k.toNat rl3)))) _ (by simp [Rel])
   ·rw [qa5 hk] at q7
    exact qa0 q7
  | _=>exact qa0 q5
 | _=>exact qa0 q1
end
def Gro (h h':Hh):Prop:= ∃ t,h'=h++t
theorem Gro.refl {h:Hh}:Gro h h:=⟨[],by simp⟩
theorem Gro.trans {h h1 h2:Hh} (a:Gro h h1) (b:Gro h1 h2):Gro h h2:=by
 obtain ⟨t,rfl⟩:=a
 obtain ⟨u,rfl⟩:=b
 exact ⟨t++u,by simp⟩
theorem Gro.get {h h':Hh} {n:Nat} {c:C} (g:Gro h h') (e:h[n]? = some c):h'[n]? = some c:=by
 obtain ⟨t,rfl⟩:=g
 rw [qad (qac.mp e).1]
 exact e
theorem Gro.ext {b:Nat} {h h':Hh} (q:Bx b h) (g:Gro h h'):Ext b h h':=by
 obtain ⟨z,e⟩:=q
 exact ⟨⟨z,g.get e⟩,fun n c _ e=>g.get e⟩
def Ev {α:Type} (m:M α) (a:α):Prop:= ∀ h, ∃ h',m h= .ok a h'/\Gro h h'
section
variable {α β:Type} {m:M α} {a:α} {f:α->M β} {b:β} {h:Hh} {P:α->Hh->Prop}
theorem Ev.pure:Ev (Pure.pure a:M α) a:=fun h=>⟨h,rfl,.refl⟩
theorem Ev.of (e:m=Pure.pure a):Ev m a:=e▸ .pure
theorem Ev.bind (x:Ev m a) (y:Ev (f a) b):Ev (m>>=f) b:=fun h=>by
 obtain ⟨h1,e1,g1⟩:=x h
 obtain ⟨h2,e2,g2⟩:=y h1
 refine ⟨h2,?_,g1.trans g2⟩
 show M.bind m f h=_
 unfold M.bind
 rw [e1]
 exact e2
theorem Ev.wp (x:Ev m a) (k: ∀ h',Gro h h'->P a h'):wp m h P:=by
 obtain ⟨h1,e1,g1⟩:=x h
 exact ⟨a,h1,e1,k h1 g1⟩
theorem Ev.of_wp (x: ∀ h,L3.wp m h fun r h'=>r=a/\Gro h h'):Ev m a:=fun h=>by
 obtain ⟨r,h1,e1,rfl,g⟩:=x h
 exact ⟨h1,e1,g⟩
theorem Ev.noX (x:Ev m a):Ev (L3.noX m) a:=fun h=>by
 obtain ⟨h1,e1,g1⟩:=x h
 refine ⟨h1,?_,g1⟩
 unfold L3.noX
 rw [e1]
end
@[simp] theorem zkY {α:Type} {a:α}:noX (pure a:M α)=pure a:=rfl
noncomputable def zea {α:Type} (c:String):M α:=fun h=> .exc c h
@[simp] theorem zik {α β:Type} {c:String} {f:α->M β}:((zea c:M α)>>=f)=zea c:=rfl
@[simp] theorem zkT {c:String} {sd:Sd}:zh1 c sd=zea c:=rfl
theorem zkt {names:List String} {gb:FS} {F:List D->M D} {sd:Sd} {o:Out} (e:gb sd=pure o):zg8 names gb F sd=pure o:=by
 funext h
 unfold zg8
 rw [e]
 rfl
theorem ziI {names:List String} {gb:FS} {F:List D->M D} {sd:Sd} {c:String} {d:D} (e:gb sd=zea c) (hc:names.contains c=true) (ek:F [.exn c]=pure d):zg8 names gb F sd=pure (.rt d):=by
 funext h
 unfold zg8
 rw [e]
 show (if names.contains c=true then (do let d<-noX (F [.exn c]);pure (.rt d):M Out) h else .bad)=_
 rw [qa4 hc,ek]
 rfl
theorem zqH {n:Nat} {Fs:List (List D->M D)} {fi:FE} {fs:FA} {sd:Sd}:zri n Fs fi fs sd=(do let i<-fi sd;let F<-zph Fs i;let ds<-fs sd;zaq n F ds):=rfl
noncomputable def tI (xs:List Int):D:= .tup (xs.map D.int)
noncomputable def zcj (o:List Int×Int):D:= .tup [tI o.1,.int o.2]
noncomputable def zbe (m:Int) (os:List (List Int×Int)):D:= .tup [.int m,.tup (os.map zcj)]
structure Stk (m:Int) (os:List (List Int×Int)):Prop where
 m0:1<=m
 m1:m<=10
 len:os.length<=12
 up: ∀ o∈os,o.1.Pairwise (· < ·)
 bd: ∀ o∈os, ∀ x∈o.1,0<=x/\x<m
 ne: ∀ o∈os,o.1≠[]
 pos: ∀ o∈os,0<o.2
theorem Stk.olen {m:Int} {os:List (List Int×Int)} (s:Stk m os): ∀ o∈os,o.1.length<=10:=fun o ho=>by
 have h:=zd2 (m:=m) (ts:=o.1.map D.int) (l:=0) (zbp.mpr ⟨s.up o ho,fun x hx=>s.bd o ho x hx⟩) (by have:=s.m0;omega)
 rw [qaH] at h
 have:=s.m1
 omega
theorem zi4 {fo fe:FE} {sd:Sd}:zmP fo fe sd=(do let x<-fo sd;zcl x;let y<-fe sd;zgV x y):=rfl
theorem zn4 {n:Nat}:zcl (.cel n)=(do let _<-zaf n;pure ()):=rfl
theorem zlr {n:Nat} {zs:List D}:zgV (.cel n) (.tup zs)=(do let ds<-zaf n;fits (ds.length+zs.length);za2 n (ds++zs);pure .non):=rfl
theorem zpT {xs:List Int} {m:Int} (m0:0<=m) (h:xs.Pairwise (· < ·)) (b: ∀ x∈xs,0<=x/\x<m):(xs.length:Int)<=m:=by
 have:=zd2 (m:=m) (ts:=xs.map D.int) (l:=0) (zbp.mpr ⟨h,b⟩) m0
 rw [qaH] at this
 omega
theorem znF: ∀ {xs ys:List Int},xs.Pairwise (· < ·)->ys.Pairwise (· < ·)->(∀ k,k∈xs↔k∈ys)->xs=ys:=by
 intro xs ys hx hy hm
 have nx:xs.Nodup:=hx.imp fun z=>by omega
 have ny:ys.Nodup:=hy.imp fun z=>by omega
 have p:List.Perm xs ys:=(List.perm_ext_iff_of_nodup nx ny).mpr hm
 exact (zd5 p (hx.imp fun z=>by omega)).trans (zd5 (List.Perm.refl ys) (hy.imp fun z=>by omega)).symm
theorem zjH {x y:D} {a b:PyData} (e1:pd x=some a) (e2:pd y=some b) (h:zfv a b=true):dEq x y=pure (.bl (PyData.eqv a b)):=by
 show zin false x y=_
 unfold zin
 rw [e1,e2]
 simp only [h,if_true]
 rfl
theorem zoB (xs:List Int):pd (tI xs)=some (.tuple (xs.map PyData.int)):=by unfold tI pd;rw [zbm];rfl
theorem zp9 (xs ys:List Int):dEq (tI xs) (tI ys)=pure (.bl (xs==ys)):=by
 rw [zjH (zoB xs) (zoB ys) (by unfold zfv;simp [PyData.canLay0,zaZ,PyData.depth,zbh])]
 simp only [PyData.eqv,zdi]
theorem zmZ (x y:Str) (hx:PyData.strOk x=true) (hy:PyData.strOk y=true):dEq (.str x) (.str y)=pure (.bl (x==y)):=by
 rw [zjH (x:= .str x) (y:= .str y) rfl rfl (by unfold zfv;simp [PyData.canLay0,PyData.depth,hx,hy])]
 rfl
theorem znX (xs ys:List Int):dEq (.lst (xs.map D.int)) (.lst (ys.map D.int))=pure (.bl (xs==ys)):=by
 have e1:pd (.lst (xs.map D.int))=some (.list (xs.map PyData.int)):=by unfold pd;rw [zbm];rfl
 have e2:pd (.lst (ys.map D.int))=some (.list (ys.map PyData.int)):=by unfold pd;rw [zbm];rfl
 rw [zjH e1 e2 (by unfold zfv;simp [PyData.canLay0,zaZ,PyData.depth,zbh])]
 simp only [PyData.eqv,zdi]
def gk (d:D):Prop:=kn d=true/\ ∀ ds,d= .tup ds->ds.length<64/\ ∀ x∈ds,kn x=true
theorem zkl {xs:List Int} (h:xs.length<64):gk (tI xs):=⟨rfl,fun ds e=>by
  cases e
  exact ⟨by rw [qaH];exact h,fun x hx=>by obtain ⟨i,_,rfl⟩:=qaU.mp hx;rfl⟩⟩
theorem zgW (k:Int) (xs:List Int):zjg (.int k) (.lst (xs.map D.int))=pure (.bl (!xs.any (· == k))):=by
 show zmo true (.int k) (.lst (xs.map D.int))=_
 unfold zmo
 simp only [pd]
 rw [zbm]
 have c:zk6 (.int k) (xs.map PyData.int)=true:=by
  unfold zk6
  simp [PyData.canLay0,zaZ,PyData.depth,zbh]
 simp only [c,if_true,zfd]
theorem zg6 {xs:List Int} (h:xs.length<64):zcy [.lst (xs.map D.int)]=pure (.lst ((zba xs).map D.int)):=by
 show (do let ns<-ofO (zci (xs.map D.int));if ns.length<64 then pure (.lst ((zba ns).map D.int)) else M.bad:M D)=_
 rw [zaP]
 show (if xs.length<64 then (pure (.lst ((zba xs).map D.int)):M D) else M.bad)=_
 rw [qa4 h]
theorem zdI {xs:List Int} (h:xs.Nodup):(zba xs).Pairwise (· < ·):=by
 have h1:=zcE xs
 have h2:(zba xs).Nodup:=(zat xs).nodup_iff.mpr h
 exact (List.pairwise_and_iff.mpr ⟨h1,h2⟩).imp fun z=>by have:=z.1;have:=z.2;omega
theorem ziT {xs:List Int} {m:Int} (m0:0<=m) (h:xs.Nodup) (b: ∀ x∈xs,0<=x/\x<m):(xs.length:Int)<=m:=by
 rw [<- (zat xs).length_eq]
 exact zpT m0 (zdI h) fun x hx=>b x ((zat xs).mem_iff.mp hx)
theorem zcL {p:Int->Bool} {k:D->Option D} (e: ∀ i:Int,k (.int i)=if p i=true then some (.int i) else none): ∀ xs:List Int,(xs.map D.int).filterMap k=(xs.filter p).map D.int
 | []=>rfl
 | x::r=>by
  rw [qaM,qat,e,List.filter_cons,zcL e r]
  cases p x<;>simp
theorem zeY {j:Int} (h0:0<=j) (h1:j<1000):zdH (.int j)=pure (tI ((List.range j.toNat).map fun (k:Nat)=>(k:Int))):=by
 show (if 0<=j/\j<1000 then _ else _)=_
 rw [qa4 ⟨h0,h1⟩,zbL]
 rfl
theorem zft (xs:List D) (lo hi:Option Int):(L3.zeN xs lo hi).length<=xs.length:=by
 unfold L3.zeN
 rw [List.length_take,List.length_drop]
 omega
theorem zc4 {xs:List D} {lo hi:Option Int} {d:D} (h:d∈L3.zeN xs lo hi):d∈xs:=List.mem_of_mem_drop (List.mem_of_mem_take h)
theorem ziQ {xs:List D} {t:Int} (t0:0<=t) (t1:t<(xs.length:Int)): ∃ d,atI xs t=some d/\d∈xs:=by
 have ht:t.toNat<xs.length:=by omega
 refine ⟨xs[t.toNat],?_,List.getElem_mem ht⟩
 have:=zfe (xs:=xs) (j:=t.toNat) (v:=xs[t.toNat]) (by simp [ht])
 rw [<- this]
 congr 1
 omega
theorem zgU {xs:List D} {t:Int} {h:Hh} {P:D->Hh->Prop} (t0:0<=t) (t1:t<(xs.length:Int)) (k: ∀ d∈xs,P d h):wp (ofO (atI xs t)) h P:=by
 obtain ⟨d,ed,hd⟩:=ziQ t0 t1
 rw [ed,zdt,zak]
 exact k d hd
theorem zpt {i j:Int}:zlV [.int i,.int j]=pure (.int (if j<i then j else i)):=rfl
theorem zrW {i j:Int}:zkX [.int i,.int j]=pure (.int (if j>i then j else i)):=rfl
noncomputable def gkB:D->Bool
 | .tup ds=>decide (ds.length<64) && ds.all kn
 | d=>kn d
theorem zp7 {d:D} (h:gkB d=true):gk d:=by
 cases d with
 | tup ds=>
  simp only [gkB,qaG,qaD,List.all_eq_true] at h
  exact ⟨rfl,fun es e=>by cases e;exact h⟩
 | _=>exact ⟨by simpa [gkB] using h,fun es e=>by cases e⟩
theorem gkT {ds:List D} (h:ds.length<64) (k: ∀ x∈ds,kn x=true):gk (.tup ds):=⟨rfl,fun es e=>by cases e;exact ⟨h,k⟩⟩
theorem zcr (n:Nat):((List.range n).map fun (k:Nat)=>(k:Int)).Pairwise (· < ·):=by
 rw [List.pairwise_map]
 exact List.pairwise_lt_range.imp fun z=>by omega
theorem zeb {n:Nat}: ∀ x∈(List.range n).map fun (k:Nat)=>(k:Int),0<=x/\x<n:=fun x hx=>by
 obtain ⟨k,hk,rfl⟩:=qaU.mp hx
 have:=List.mem_range.mp hk
 omega
def EvX {α:Type} (m:M α) (c:String):Prop:= ∀ h, ∃ h',m h= .exc c h'/\Gro h h'
section
variable {α β:Type} {m:M α} {a:α} {f:α->M β} {c:String}
theorem EvX.raise:EvX (zea c:M α) c:=fun h=>⟨h,rfl,.refl⟩
theorem EvX.of (e:m=zea c):EvX m c:=e▸ .raise
theorem EvX.left (x:EvX m c):EvX (m>>=f) c:=fun h=>by
 obtain ⟨h1,e1,g1⟩:=x h
 refine ⟨h1,?_,g1⟩
 show M.bind m f h=_
 unfold M.bind
 rw [e1]
end
theorem zoI {g:FS} {sd:Sd}:zsu g sd=noX (g sd):=rfl
theorem zpj {g:FE} {sd:Sd}:zsr g sd=noX (g sd):=rfl
theorem zlZ (xs:List D) {k:Int} (h:0<=k):L3.zeN xs none (some k)=xs.take k.toNat:=by
 have e:=HT.znB xs.length xs.length k.toNat
 rw [Int.toNat_of_nonneg h] at e
 unfold L3.zeN
 have e0:HT.sIx xs.length 0 none=0:=rfl
 rw [e0,e]
 simp
theorem zmU {xs:List Int} {m:Int} (m0:0<=m) (h:xs.Pairwise (· < ·)) (b: ∀ x∈xs,0<=x/\x<m):(xs==(List.range m.toNat).map fun (k:Nat)=>(k:Int))=((xs.length:Int)==m):=by
 rw [Bool.eq_iff_iff,beq_iff_eq,beq_iff_eq]
 constructor
 ·intro e
  rw [e]
  simp
  omega
 ·intro e
  refine znF h (zcr _) fun k=>⟨fun hk=> ?_,fun hk=> ?_⟩
  ·obtain ⟨h1,h2⟩:=b k hk
   exact qaU.mpr ⟨k.toNat,List.mem_range.mpr (by omega),by omega⟩
  ·have hb:=zeb k hk
   by_cases c:k∈xs
   ·exact c
   ·exfalso
    have:=ziT (xs:=k::xs) m0 (List.nodup_cons.mpr ⟨c,h.imp fun z=>by omega⟩) fun x hx=>by
     rcases qaP.mp hx with rfl | hx
     ·omega
     ·exact b x hx
    rw [qaE] at this
    omega
theorem zsw {i j:Bool}:dEq (.bl i) (.bl j)=pure (.bl (i==j)):=by
 unfold dEq zin
 simp only [pd]
 rw [qa4 (show zfv (.bool i) (.bool j)=true from rfl)]
 rfl
end L3
namespace K71
open PySem PySem.Spec PyProof.Rows L2 L3
noncomputable def zbK:List String:=["NoStock","NoOffer","NoThing","NoCover","NoPaper","NoNumber","NotFull","NotInRow","NoText","NoRow","TooMany"]
noncomputable def G_20:FS:=zaw (sIf (zgL dLt (zag 1) (zaz zh9 (zab (zag 0) zan))) (zbY (cOp dIx (zag 0) (zag 1))) zfN) (zbY (cOp zbv (cOp ziM (cK (.int 6151)) (zag 1)) (cK (.int 29))))
noncomputable def F_20:List D->M D:=zds 2 G_20
theorem d_20 (x0 x1:D):F_20 [x0,x1]=(do let o<-G_20 [some x0,some x1];zdr o):=rfl
noncomputable def zco:FS:=zaw (zbO 4 (cOp zob (cOp zbv (cOp zbv (cOp zbv (cOp ziM (zag 4) (cK (.int 48271))) (cOp ziM (cOp ziM (cK (.int 7)) (zag 5)) (zag 5))) (cOp ziM (cK (.int 11)) (zag 1))) (cK (.int 1))) (cK (.int 2147483647)))) (zbO 3 (cOp zbv (cOp ziM (zag 3) (cK (.int 2147483647))) (zag 4)))
noncomputable def G_21:FS:=zaw (zbO 2 (zaz (zaq 2 F_20) (zab (zag 0) (zab (zag 1) zan)))) (zaw (sIf (zgL dEq (cOp zob (zag 2) (cK (.int 2))) (cK (.int 0))) (zbY (zgO (zab (cOp zlA (zag 2) (cK (.int 2))) zan))) zfN) (zaw (zbO 3 (cK (.int 0))) (zaw (zbO 4 (cOp zob (zag 2) (cK (.int 2147483647)))) (zaw (zom (zg3 (zab (cK (.int 24)) zan)) (za1 5) zco) (zbY (zgO (zab (zag 3) zan)))))))
noncomputable def F_21:List D->M D:=zds 6 G_21
theorem d_21 (x0 x1:D):F_21 [x0,x1]=(do let o<-G_21 [some x0,some x1,none,none,none,none];zdr o):=rfl
noncomputable def G_22:FS:=zaw (zbO 2 (cOp zob (cOp dIx (zag 0) (cK (.int 0))) (zag 1))) (zaw (zqf (cOp zlA (cOp dIx (zag 0) (cK (.int 0))) (zag 1)) (zkU (zag 0) (cK (.int 0)))) (zbY (zag 2)))
noncomputable def F_22:List D->M D:=zds 3 G_22
theorem d_22 (x0 x1:D):F_22 [x0,x1]=(do let o<-G_22 [some x0,some x1,none];zdr o):=rfl
noncomputable def zbl:FS:=zaw (zbO 7 (zaz (zaq 2 F_22) (zab (zag 0) (zab (zag 3) zan)))) (zaw (zbO 8 (zaz zlV (zab (zag 3) (zab (cOp zbv (cOp zbv (zag 7) (cK (.int 1))) (zaz (zaq 2 F_22) (zab (zag 0) (zab (cOp dIx (zeJ (zab (cK (.int 2)) (zab (cK (.int 4)) (zab (zag 3) zan)))) (zaz (zaq 2 F_22) (zab (zag 0) (zab (cK (.int 3)) zan)))) zan)))) zan)))) (zgu (zeH (zag 5) (zcZ (zab (cOp zcF (zag 7) (zag 8)) (zab (cOp zbv (cK (.int 1)) (zaz (zaq 2 F_22) (zab (zag 0) (zab (zag 4) zan)))) zan))))))
noncomputable def zbn:FS:=zbO 9 (cOp zbv (zag 9) (zaz zlO (zab (zag 10) zan)))
noncomputable def zbU:FE:=zag 0
noncomputable def zbT:FT:=zgL zjg (zag 0) (zag 1)
noncomputable def G_29:FS:=zaw (zbO 3 (cOp zbv (cK (.int 1)) (zaz (zaq 2 F_22) (zab (zag 0) (zab (zag 1) zan))))) (zaw (zbO 4 (cOp dIx (zeJ (zab (cK (.int 3)) (zab (cK (.int 9)) (zab (cK (.int 50)) (zab (cOp zoT (cK (.int 10)) (cK (.int 12))) zan))))) (zaz (zaq 2 F_22) (zab (zag 0) (zab (cK (.int 4)) zan))))) (zaw (zbO 5 (zgO zan)) (zaw (zom (zg3 (zab (cOp zbv (cK (.int 1)) (zaz (zaq 2 F_22) (zab (zag 0) (zab (cOp zmS (zag 2) (cK (.int 3))) zan)))) zan)) (za1 6) zbl) (zaw (zbO 9 (zeJ zan)) (zaw (zn8 (zag 5) (zcV 2 (zaR (za1 10) (zaR (za1 11) zc3))) zbn) (zaw (zbO 12 (zaI (zg3 (zab (zag 3) zan)) (za1 0) zbT zbU [none,some 9])) (zaw (sIf (zgL dNe (zag 12) (zeJ zan)) (zgu (zeH (zag 5) (zcZ (zab (cOp zcF (cOp dIx (zag 12) (cK (.int 0))) (cOp zbv (cOp dIx (zag 12) (cUn zmd (cK (.int 1)))) (cK (.int 1)))) (zab (cOp zbv (cK (.int 1)) (zaz (zaq 2 F_22) (zab (zag 0) (zab (zag 4) zan)))) zan))))) zfN) (zaw (zgu (zpD (zag 5) (zaz (zaq 2 F_22) (zab (zag 0) (zab (cOp zbv (zaz zh9 (zab (zag 5) zan)) (cK (.int 1))) zan))) (zcZ (zab (cUn zdH (zag 3)) (zab (cOp zbv (cK (.int 1)) (zaz (zaq 2 F_22) (zab (zag 0) (zab (zag 4) zan)))) zan))))) (zbY (zcZ (zab (zag 3) (zab (zaz zbr (zab (cSl (cUn zpC (zag 5)) zdZ (zdX (zag 2))) zan)) zan))))))))))))
noncomputable def F_29:List D->M D:=zds 13 G_29
theorem d_29 (x0 x1 x2:D):F_29 [x0,x1,x2]=(do let o<-G_29 [some x0,some x1,some x2,none,none,none,none,none,none,none,none,none,none];zdr o):=rfl
noncomputable def zbV:FE:=zrp (zag 1) (zaz (zaq 2 F_22) (zab (zag 2) (zab (zaz zh9 (zab (zag 1) zan)) zan)))
noncomputable def G_30:FS:=zaw (zbO 2 (cUn zha (zag 1))) (zbY (zaz zbr (zab (zaI (zg3 (zab (zag 1) zan)) (za1 0) (fun _=>pure true) zbV [none,some 2,some 0]) zan)))
noncomputable def F_30:List D->M D:=zds 3 G_30
theorem d_30 (x0 x1:D):F_30 [x0,x1]=(do let o<-G_30 [some x0,some x1,none];zdr o):=rfl
noncomputable def zch:FE:=zcZ (zab (zag 1) (zab (zag 0) zan))
noncomputable def zdl:FE:=cOp zqT (zag 1) (zag 0)
noncomputable def zc8:FE:=zcZ (zab (zaz zbr (zab (zaz zcy (zab (zaI (iSq (zag 0)) (za1 0) (fun _=>pure true) zdl [none,some 2]) zan)) zan)) (zab (zag 1) zan))
noncomputable def G_33:FS:=zaw (zbO 2 (zaz znS (zab (zaI (zpZ (zag 1)) (zcV 2 (zaR (za1 0) (zaR (za1 1) zc3))) (fun _=>pure true) zch [none,none]) zan))) (zbY (zcZ (zab (cOp dIx (zag 0) (cK (.int 0))) (zab (zaz zbr (zab (zaI (iSq (cOp dIx (zag 0) (cK (.int 1)))) (zcV 2 (zaR (za1 0) (zaR (za1 1) zc3))) (fun _=>pure true) zc8 [none,none,some 2]) zan)) zan))))
noncomputable def F_33:List D->M D:=zds 3 G_33
theorem d_33 (x0 x1:D):F_33 [x0,x1]=(do let o<-G_33 [some x0,some x1,none];zdr o):=rfl
noncomputable def zbH:FE:=zag 0
noncomputable def zbF:FT:=zgL dEq (cOp zr8 (cOp zrj (zag 1) (zag 0)) (cK (.int 1))) (cK (.int 1))
noncomputable def zbD:FE:=cOp zob (cOp zbv (zag 1) (cOp ziM (zag 2) (zag 0))) (zag 3)
noncomputable def G_26:FS:=zaw (zbO 2 (zaz (zaq 2 F_22) (zab (zag 0) (zab (cK (.int 3)) zan)))) (zaw (sIf (zgL dEq (zag 2) (cK (.int 0))) (zaw (zbO 3 (cOp zbv (cK (.int 1)) (zaz (zaq 2 F_22) (zab (zag 0) (zab (cOp zmS (cOp zrA (cK (.int 1)) (zag 1)) (cK (.int 1))) zan))))) (zbY (zaz zbr (zab (zaI (zg3 (zab (zag 1) zan)) (za1 0) zbF zbH [none,some 3]) zan)))) zfN) (zaw (zqf (zcZ (zab (zaz (zaq 2 F_22) (zab (zag 0) (zab (zag 1) zan))) (zab (cOp dIx (zeJ (zab (cK (.int 1)) (zab (cOp zbv (cK (.int 1)) (zaz (zaq 2 F_22) (zab (zag 0) (zab (cK (.int 3)) zan)))) zan))) (cOp zmS (zag 2) (cK (.int 1)))) zan))) (zcV 2 (zaR (za1 4) (zaR (za1 5) zc3)))) (zbY (zaz zbr (zab (cUn zbR (zaI (zg3 (zab (cOp zbv (cK (.int 1)) (zaz (zaq 2 F_22) (zab (zag 0) (zab (cK (.int 4)) zan)))) zan)) (za1 0) (fun _=>pure true) zbD [none,some 4,some 5,some 1])) zan)))))
noncomputable def F_26:List D->M D:=zds 6 G_26
theorem d_26 (x0 x1:D):F_26 [x0,x1]=(do let o<-G_26 [some x0,some x1,none,none,none,none];zdr o):=rfl
noncomputable def zca:FE:=zgO (zab (zaz (zaq 2 F_26) (zab (zag 1) (zab (zag 2) zan))) (zab (cOp zbv (cK (.int 1)) (zaz (zaq 2 F_22) (zab (zag 1) (zab (zag 3) zan)))) zan))
noncomputable def zc7:FE:=zag 0
noncomputable def zde:FT:=zgL dIn (zag 1) (cOp dIx (zag 0) (cK (.int 0)))
noncomputable def zbc:FS:=sIf (zgL zpG (zaI (iSq (zag 5)) (za1 0) zde zc7 [none,some 6]) (zeJ zan)) (zaw (zbO 7 (cOp dIx (zag 5) (zaz (zaq 2 F_22) (zab (zag 0) (zab (zaz zh9 (zab (zag 5) zan)) zan))))) (zqf (zaz zbr (zab (zaz zcy (zab (cOp zbv (cOp dIx (zag 7) (cK (.int 0))) (zcZ (zab (zag 6) zan))) zan)) zan)) (zkU (zag 7) (cK (.int 0))))) zfN
noncomputable def zda:FE:=zcZ (zab (cOp dIx (zag 0) (cK (.int 0))) (zab (cOp dIx (zag 0) (cK (.int 1))) zan))
noncomputable def G_27:FS:=zaw (zbO 3 (cOp zbv (cK (.int 1)) (zaz (zaq 2 F_22) (zab (zag 0) (zab (zag 1) zan))))) (zaw (zbO 4 (cOp dIx (zeJ (zab (cK (.int 3)) (zab (cK (.int 9)) (zab (cK (.int 50)) (zab (cOp zoT (cK (.int 10)) (cK (.int 12))) zan))))) (zaz (zaq 2 F_22) (zab (zag 0) (zab (cK (.int 4)) zan))))) (zaw (zbO 5 (zaI (zg3 (zab (cOp zbv (cK (.int 1)) (zaz (zaq 2 F_22) (zab (zag 0) (zab (zag 2) zan)))) zan)) (za1 0) (fun _=>pure true) zca [none,some 0,some 3,some 4])) (zaw (zom (zg3 (zab (zag 3) zan)) (za1 6) zbc) (zbY (zcZ (zab (zag 3) (zab (zaz zbr (zab (zaI (iSq (zag 5)) (za1 0) (fun _=>pure true) zda [none]) zan)) zan)))))))
noncomputable def F_27:List D->M D:=zds 8 G_27
theorem d_27 (x0 x1 x2:D):F_27 [x0,x1,x2]=(do let o<-G_27 [some x0,some x1,some x2,none,none,none,none,none];zdr o):=rfl
noncomputable def G_17:FS:=zbY (cOp dEq (cOp zmS (cOp dIx (zag 0) (cUn zmd (cK (.int 1)))) (cOp dIx (zag 0) (cK (.int 0)))) (cOp zmS (zaz zh9 (zab (zag 0) zan)) (cK (.int 1))))
noncomputable def F_17:List D->M D:=zds 1 G_17
theorem d_17 (x0:D):F_17 [x0]=(do let o<-G_17 [some x0];zdr o):=rfl
noncomputable def zdA:FE:=zaz (zaq 1 F_17) (zab (cOp dIx (zag 0) (cK (.int 0))) zan)
noncomputable def G_14:FS:=zbY (zaz zkP (zab (zaI (iSq (cOp dIx (zag 0) (cK (.int 1)))) (za1 0) (fun _=>pure true) zdA [none]) zan))
noncomputable def F_14:List D->M D:=zds 1 G_14
theorem d_14 (x0:D):F_14 [x0]=(do let o<-G_14 [some x0];zdr o):=rfl
noncomputable def zbI:FE:=cOp dEq (zag 0) (cOp zcF (cOp dIx (zag 0) (cK (.int 0))) (cOp zbv (cOp dIx (zag 0) (cUn zmd (cK (.int 1)))) (cK (.int 1))))
noncomputable def G_34:FS:=zbY (zaz zkP (zab (zaI (iSq (cOp dIx (zag 0) (cK (.int 1)))) (zcV 2 (zaR (za1 0) (zaR (za1 1) zc3))) (fun _=>pure true) zbI [none,none]) zan))
noncomputable def F_34:List D->M D:=zds 1 G_34
theorem d_34 (x0:D):F_34 [x0]=(do let o<-G_34 [some x0];zdr o):=rfl
noncomputable def G_24:FS:=zaw (zbO 1 (zeJ (zab (cK .non) (zab (cK (.bl true)) (zab (cK (.int 7)) (zab (cK (.str "")) (zab (cK (.str "0")) (zab (zcZ zan) (zab (zeJ zan) (zab (cK .dct) (zab (zcZ (zab (cK (.int 1)) (zab (cK (.int 2)) zan))) (zab (zcZ (zab (cK (.int 0)) zan)) (zab (zcZ (zab (cK (.int 1)) (zab (cK (.int 0)) zan))) (zab (cUn zmd (cK (.int 1))) (zab (zcZ (zab (cK (.int 0)) (zab (cK (.int 1)) zan))) (zab (zeJ (zab (zcZ (zab (cK (.int 1)) (zab (cK (.int 0)) (zab (cK (.int 1)) zan)))) zan)) (zab (cK (.bl false)) (zab (zcZ (zab (zcZ (zab (cK (.int 0)) (zab (cK (.int 1)) zan))) zan)) zan)))))))))))))))))) (zbY (cOp dIx (zag 1) (zaz (zaq 2 F_22) (zab (zag 0) (zab (cK (.int 16)) zan)))))
noncomputable def F_24:List D->M D:=zds 2 G_24
theorem d_24 (x0:D):F_24 [x0]=(do let o<-G_24 [some x0,none];zdr o):=rfl
noncomputable def G_28:FS:=zaw (zbO 3 (zaz (zaq 2 F_22) (zab (zag 0) (zab (cOp zbv (zaz zh9 (zab (zag 1) zan)) (cK (.int 1))) zan)))) (zaw (zbO 4 (cOp dIx (zeJ (zab (zaz (zaq 2 F_22) (zab (zag 0) (zab (cK (.int 13)) zan))) (zab (zag 2) (zab (cUn zmd (cK (.int 1))) (zab (cK (.bl true)) (zab (cK .non) (zab (cK (.str "0")) (zab (zcZ (zab (cK (.int 0)) zan)) (zab (cK (.bl false)) zan))))))))) (zaz (zaq 2 F_22) (zab (zag 0) (zab (cK (.int 8)) zan))))) (zaw (zbO 5 (zeJ (zab (cOp zbv (cOp zbv (cSl (zag 1) zdZ (zdX (zag 3))) (zcZ (zab (zag 4) zan))) (cSl (zag 1) (zdX (cOp zbv (zag 3) (cK (.int 1)))) zdZ)) (zab (cOp zbv (cSl (zag 1) zdZ (zdX (zag 3))) (cSl (zag 1) (zdX (cOp zbv (zag 3) (cK (.int 1)))) zdZ)) (zab (cOp zbv (cOp zbv (cSl (zag 1) zdZ (zdX (zag 3))) (zcZ (zab (zag 4) zan))) (cSl (zag 1) (zdX (zag 3)) zdZ)) (zab (cUn zqZ (zag 1)) zan)))))) (zaw (zbO 5 (cOp zbv (zag 5) (zeJ (zab (zaz zlO (zab (zag 1) zan)) (zab (cOp zbv (zag 1) (cSl (zag 1) zdZ (zdX (cK (.int 1))))) (zab (zaz zbr (zab (cUn zbR (cOp zbv (zag 1) (zcZ (zab (zaz (zaq 2 F_22) (zab (zag 0) (zab (zaz zkX (zab (cK (.int 1)) (zab (zag 2) zan))) zan))) zan)))) zan)) zan)))))) (zaw (zbO 5 (cOp zbv (zag 5) (zeJ (zab (zaz (zaq 1 F_24) (zab (zag 0) zan)) (zab (zag 1) zan))))) (zbY (cOp dIx (zag 5) (zaz (zaq 2 F_22) (zab (zag 0) (zab (cK (.int 9)) zan)))))))))
noncomputable def F_28:List D->M D:=zds 6 G_28
theorem d_28 (x0 x1 x2:D):F_28 [x0,x1,x2]=(do let o<-G_28 [some x0,some x1,some x2,none,none,none];zdr o):=rfl
noncomputable def G_23:FS:=zbY (znk (cUn (zeK "int") (zag 0)) (zqW (cUn (zeK "bool") (zag 0))))
noncomputable def F_23:List D->M D:=zds 1 G_23
theorem d_23 (x0:D):F_23 [x0]=(do let o<-G_23 [some x0];zdr o):=rfl
noncomputable def zbj:FE:=zaz (zaq 1 F_23) (zab (zag 0) zan)
noncomputable def G_32:FS:=zaw (sIf (tOr (zfO (zgM (cUn (zeK "tuple") (zag 1)))) (zfO (zgM (zaz zkP (zab (zaI (iSq (zag 1)) (za1 0) (fun _=>pure true) zbj [none]) zan))))) (zbY (cK (.bl false))) zfN) (zbY (cOp dEq (zaz zcy (zab (zag 1) zan)) (cUn zdh (cOp dIx (zag 0) (cK (.int 0))))))
noncomputable def F_32:List D->M D:=zds 2 G_32
theorem d_32 (x0 x1:D):F_32 [x0,x1]=(do let o<-G_32 [some x0,some x1];zdr o):=rfl
noncomputable def zct:FE:=zag 0
noncomputable def zcq:FT:=zgL dIn (zag 1) (cOp dIx (zag 2) (cK (.int 0)))
noncomputable def G_13:FS:=zbY (zaz zbr (zab (zaI (zpZ (zag 1)) (zcV 2 (zaR (za1 0) (zaR (za1 1) zc3))) zcq zct [none,none,some 0]) zan))
noncomputable def F_13:List D->M D:=zds 2 G_13
theorem d_13 (x0 x1:D):F_13 [x0,x1]=(do let o<-G_13 [some x0,some x1];zdr o):=rfl
noncomputable def zcT:FE:=zcZ (zab (zaz (zaq 2 F_13) (zab (zag 0) (zab (zag 1) zan))) (zab (cOp dIx (zag 0) (cK (.int 1))) zan))
noncomputable def G_19:FS:=zbY (zcZ (zab (cOp dIx (zag 0) (cK (.int 0))) (zab (zaz zbr (zab (zaI (iSq (cOp dIx (zag 0) (cK (.int 1)))) (za1 0) (fun _=>pure true) zcT [none,some 1]) zan)) zan)))
noncomputable def F_19:List D->M D:=zds 2 G_19
theorem d_19 (x0 x1:D):F_19 [x0,x1]=(do let o<-G_19 [some x0,some x1];zdr o):=rfl
noncomputable def G_12:FS:=zbY (znk (cUn (zeK "int") (zag 0)) (zqW (cUn (zeK "bool") (zag 0))))
noncomputable def F_12:List D->M D:=zds 1 G_12
theorem d_12 (x0:D):F_12 [x0]=(do let o<-G_12 [some x0];zdr o):=rfl
noncomputable def zcx:FE:=zaz (zaq 1 F_12) (zab (zag 0) zan)
noncomputable def G_18:FS:=zaw (sIf (tOr (zfO (zgM (cUn (zeK "tuple") (zag 1)))) (zfO (zgM (zaz zkP (zab (zaI (iSq (zag 1)) (za1 0) (fun _=>pure true) zcx [none]) zan))))) (zbY (cK (.bl false))) zfN) (zbY (cOp dEq (zaz zcy (zab (zag 1) zan)) (cUn zdh (cOp dIx (zag 0) (cK (.int 0))))))
noncomputable def F_18:List D->M D:=zds 2 G_18
theorem d_18 (x0 x1:D):F_18 [x0,x1]=(do let o<-G_18 [some x0,some x1];zdr o):=rfl
noncomputable def G_15:FS:=zbY (znk (zaz (zaq 2 F_18) (zab (zag 0) (zab (zag 1) zan))) (zaz (zaq 1 F_14) (zab (zaz (zaq 2 F_19) (zab (zag 0) (zab (zag 1) zan))) zan)))
noncomputable def F_15:List D->M D:=zds 2 G_15
theorem d_15 (x0 x1:D):F_15 [x0,x1]=(do let o<-G_15 [some x0,some x1];zdr o):=rfl
noncomputable def zfq:FE:=zaz znN (zab (zag 0) zan)
noncomputable def G_25:FS:=zaw (zbO 1 (zeJ (zab (cUn (ziL zbK "NoStock") (zag 0)) (zab (cUn (ziL zbK "NoOffer") (zag 0)) (zab (cUn (ziL zbK "NoThing") (zag 0)) (zab (cUn (ziL zbK "NoCover") (zag 0)) zan)))))) (zaw (zbO 1 (cOp zbv (zag 1) (zeJ (zab (cUn (ziL zbK "NoPaper") (zag 0)) (zab (cUn (ziL zbK "NoNumber") (zag 0)) (zab (cUn (ziL zbK "NotFull") (zag 0)) (zab (cUn (ziL zbK "NotInRow") (zag 0)) zan))))))) (zaw (zbO 1 (cOp zbv (zag 1) (zeJ (zab (cUn (ziL zbK "NoText") (zag 0)) (zab (cUn (ziL zbK "NoRow") (zag 0)) (zab (cUn (ziL zbK "TooMany") (zag 0)) zan)))))) (zaw (sIf (tOr (zfO (zgM (cUn (zqz zbK) (zag 0)))) (zgL dNe (zaz zsf (zab (zaI (iSq (zag 1)) (za1 0) (fun _=>pure true) zfq [none]) zan)) (cK (.int 1)))) (zbY (cK (.str "! none of the classes"))) zfN) (zaw (zbO 2 (zeJ (zab (cK (.str "stock")) (zab (cK (.str "offer")) (zab (cK (.str "thing")) (zab (cK (.str "cover")) (zab (cK (.str "paper")) (zab (cK (.str "number")) (zab (cK (.str "full")) (zab (cK (.str "in row")) (zab (cK (.str "text")) (zab (cK (.str "row")) (zab (cK (.str "many")) zan))))))))))))) (zbY (cOp zbv (cK (.str "! ")) (cOp dIx (zag 2) (cUn zoX (zag 1)))))))))
noncomputable def F_25:List D->M D:=zds 3 G_25
theorem d_25 (x0:D):F_25 [x0]=(do let o<-G_25 [some x0,none,none];zdr o):=rfl
noncomputable def G_16:FS:=zaw (sIf (zfO (zgM (zaz (zaq 2 fun ds=>noX (F_18 ds)) (zab (zag 0) (zab (zag 1) zan))))) (zh1 "NoThing") zfN) (zbY (zaz (zaq 2 fun ds=>noX (F_19 ds)) (zab (zag 0) (zab (zag 1) zan))))
noncomputable def F_16:List D->M D:=zds 2 G_16
theorem d_16 (x0 x1:D):F_16 [x0,x1]=(do let o<-G_16 [some x0,some x1];zdr o):=rfl
noncomputable def G_31:FS:=zg8 zbK (zbY (zaz (zaq 2 F_16) (zab (zag 0) (zab (zag 1) zan)))) F_25
noncomputable def F_31:List D->M D:=zds 3 G_31
theorem d_31 (x0 x1:D):F_31 [x0,x1]=(do let o<-G_31 [some x0,some x1,none];zdr o):=rfl
noncomputable def G_35:FS:=zaw (zbO 2 (zaz (zaq 2 F_32) (zab (zag 0) (zab (zag 1) zan)))) (zaw (zbO 3 (zaz (zaq 2 F_15) (zab (zag 0) (zab (zag 1) zan)))) (zaw (zbO 4 (zaz (zaq 2 F_31) (zab (zag 0) (zab (zag 1) zan)))) (zaw (sIf (zfO (zgM (zag 2))) (zbY (znk (cOp dIs (zag 3) (cK (.bl false))) (cOp dEq (zag 4) (cK (.str "! thing"))))) zfN) (zaw (sIf (tOr (zfO (zgM (cUn (zeK "tuple") (zag 4)))) (zgL dNe (zag 4) (zaz (zaq 2 F_33) (zab (zag 0) (zab (zag 1) zan))))) (zbY (cK (.bl false))) zfN) (zbY (znk (cUn (zeK "bool") (zag 3)) (cOp dEq (zag 3) (zaz (zaq 1 F_34) (zab (zaz (zaq 2 F_33) (zab (zag 0) (zab (zag 1) zan))) zan)))))))))
noncomputable def F_35:List D->M D:=zds 5 G_35
theorem d_35 (x0 x1:D):F_35 [x0,x1]=(do let o<-G_35 [some x0,some x1,none,none,none];zdr o):=rfl
noncomputable def zgT:FE:=znr (zag 1) (zag 0)
noncomputable def zeB:FE:=zaz (zaq 2 F_35) (zab (zag 1) (zab (zag 0) zan))
noncomputable def zdu:FS:=zaw (zbO 6 (zaz (zaq 1 F_14) (zab (zag 5) zan))) (zaw (sIf (tOr (zfO (zgM (cUn (zeK "bool") (zag 6)))) (zgL dNe (zag 6) (zaz (zaq 1 F_34) (zab (zag 5) zan)))) (zbY (cK (.bl false))) zfN) (zaw (zbO 7 (zaz (zaq 2 F_30) (zab (zag 2) (zab (cOp dIx (zag 5) (cK (.int 0))) zan)))) (zaw (zbO 8 (zgO (zab (zag 7) (zab (cUn zdH (cOp dIx (zag 5) (cK (.int 0)))) (zab (zaz (zaq 3 F_28) (zab (zag 2) (zab (zag 7) (zab (cOp dIx (zag 5) (cK (.int 0))) zan)))) (zab (zaz (zaq 3 F_28) (zab (zag 2) (zab (zag 7) (zab (cOp dIx (zag 5) (cK (.int 0))) zan)))) zan)))))) (zaw (sIf (zgL dEq (cOp dIx (zag 5) (cK (.int 0))) (cOp dIx (zag 3) (cK (.int 0)))) (zgu (zeH (zag 8) (zaz zbr (zab (zaI (zg3 (zab (cOp dIx (zag 3) (cK (.int 0))) zan)) (za1 0) (fun _=>pure true) zgT [none,some 4]) zan)))) zfN) (sIf (zfO (zgM (zaz zkP (zab (zfa (zag 8) (za1 0) (fun _=>pure true) zeB [none,some 5]) zan)))) (zbY (cK (.bl false))) zfN)))))
noncomputable def zej:FS:=zaw (zbO 2 (zaz (zaq 2 F_21) (zab (zag 0) (zab (zag 1) zan)))) (zaw (zbO 3 (zaz (zaq 3 F_29) (zab (zag 2) (zab (cK (.int 10)) (zab (cK (.int 12)) zan))))) (zaw (zbO 4 (zaz (zaq 2 F_30) (zab (zag 2) (zab (cOp dIx (zag 3) (cK (.int 0))) zan)))) (zom (iSq (zeJ (zab (zag 3) (zab (zaz (zaq 2 F_33) (zab (zag 3) (zab (zag 4) zan))) (zab (zaz (zaq 3 F_27) (zab (zag 2) (zab (cK (.int 10)) (zab (cK (.int 12)) zan)))) zan))))) (za1 5) zdu)))
noncomputable def G_36:FS:=zaw (zom (zg3 (zab (zaz zkX (zab (cK (.int 1)) (zab (zaz zlV (zab (zaz zh9 (zab (zag 0) zan)) (zab (cK (.int 4)) zan))) zan))) zan)) (za1 1) zej) (zbY (cK (.bl true)))
noncomputable def F_36:List D->M D:=zds 9 G_36
theorem d_36 (x0:D):F_36 [x0]=(do let o<-G_36 [some x0,none,none,none,none,none,none,none,none];zdr o):=rfl
end K71
set_option genInjectivity false
set_option genSizeOf false
set_option genSizeOfSpec false
namespace K71
open PySem PySem.Spec PyProof.Rows L2 L3
noncomputable def top (i:Nat):Stmt:=PySem.Challenge.pw_cheapcovers_k71_rows_and_orders.main.body.getD i (.Pass ⟨0,0,0,0⟩)
theorem zgk {A:Around} {k:Nat} (hr:zcO k A):A.units+60<cLine:=by have:=hr.units;omega
theorem zrH {A:Around} {k:Nat} (hr:zcz k A):A.units+60<cLine:=by have:=hr.un;omega
theorem zpE {P:Program} {w:World} {K:W.Frag} {mg:Str->Option Value} {base:Heap} {N:List Str} {qual:Str} {scope:Scope} {f:Addr} {cd:Value} {A:Around} {outer:List Env} {s:Shared} {H:Hp} {E:XK}:zeP (zg7 CX0 P w K mg base N qual scope f cd A outer s H E).nox:=⟨rfl,rfl,rfl⟩
theorem zgi:bootBuiltins "all"=some (.builtin "all"):=by decide +kernel
theorem zfA:bootBuiltins "bool"=some (.type "bool"):=by decide +kernel
theorem znO:bootBuiltins "dict"=some (.type "dict"):=by decide +kernel
theorem zjk:bootBuiltins "int"=some (.type "int"):=by decide +kernel
theorem zec:bootBuiltins "len"=some (.builtin "len"):=by decide +kernel
theorem zjq:bootBuiltins "list"=some (.type "list"):=by decide +kernel
theorem zl7:bootBuiltins "max"=some (.builtin "max"):=by decide +kernel
theorem zmm:bootBuiltins "min"=some (.builtin "min"):=by decide +kernel
theorem zdb:bootBuiltins "sorted"=some (.builtin "sorted"):=by decide +kernel
theorem zpz:bootBuiltins "sum"=some (.builtin "sum"):=by decide +kernel
theorem zaT:bootBuiltins "tuple"=some (.type "tuple"):=by decide +kernel
noncomputable abbrev s_20:Stmt:=top 25
noncomputable abbrev s_21:Stmt:=top 26
noncomputable abbrev s_22:Stmt:=top 27
noncomputable abbrev s_29:Stmt:=top 34
noncomputable abbrev s_30:Stmt:=top 35
noncomputable abbrev s_33:Stmt:=top 38
noncomputable abbrev s_26:Stmt:=top 31
noncomputable abbrev s_27:Stmt:=top 32
noncomputable abbrev s_17:Stmt:=top 21
noncomputable abbrev s_14:Stmt:=top 18
noncomputable abbrev s_34:Stmt:=top 39
noncomputable abbrev s_24:Stmt:=top 29
noncomputable abbrev s_28:Stmt:=top 33
noncomputable abbrev s_23:Stmt:=top 28
noncomputable abbrev s_32:Stmt:=top 37
noncomputable abbrev s_13:Stmt:=top 16
noncomputable abbrev s_19:Stmt:=top 23
noncomputable abbrev s_12:Stmt:=top 14
noncomputable abbrev s_18:Stmt:=top 22
noncomputable abbrev s_15:Stmt:=top 19
noncomputable abbrev s_25:Stmt:=top 30
noncomputable abbrev s_16:Stmt:=top 20
noncomputable abbrev s_31:Stmt:=top 36
noncomputable abbrev s_35:Stmt:=top 40
noncomputable abbrev s_36:Stmt:=top 41
structure Ad where
 a_0:Addr
 a_1:Addr
 a_2:Addr
 a_3:Addr
 a_4:Addr
 a_5:Addr
 a_6:Addr
 a_7:Addr
 a_8:Addr
 a_9:Addr
 a_10:Addr
 a_11:Addr
 a_20:Addr
 d_20:FuncData
 a_21:Addr
 d_21:FuncData
 a_22:Addr
 d_22:FuncData
 a_29:Addr
 d_29:FuncData
 a_30:Addr
 d_30:FuncData
 a_33:Addr
 d_33:FuncData
 a_26:Addr
 d_26:FuncData
 a_27:Addr
 d_27:FuncData
 a_17:Addr
 d_17:FuncData
 a_14:Addr
 d_14:FuncData
 a_34:Addr
 d_34:FuncData
 a_24:Addr
 d_24:FuncData
 a_28:Addr
 d_28:FuncData
 a_23:Addr
 d_23:FuncData
 a_32:Addr
 d_32:FuncData
 a_13:Addr
 d_13:FuncData
 a_19:Addr
 d_19:FuncData
 a_12:Addr
 d_12:FuncData
 a_18:Addr
 d_18:FuncData
 a_15:Addr
 d_15:FuncData
 a_25:Addr
 d_25:FuncData
 a_16:Addr
 d_16:FuncData
 a_31:Addr
 d_31:FuncData
 a_35:Addr
 d_35:FuncData
 a_36:Addr
 d_36:FuncData
structure Tx (K:W.Frag) (mg:Str->Option Value) (t:Ad):Prop where
 n_ValueError:mg "ValueError"=none
 n_all:mg "all"=none
 n_bool:mg "bool"=none
 n_dict:mg "dict"=none
 n_enumerate:mg "enumerate"=none
 n_int:mg "int"=none
 n_isinstance:mg "isinstance"=none
 n_len:mg "len"=none
 n_list:mg "list"=none
 n_max:mg "max"=none
 n_min:mg "min"=none
 n_range:mg "range"=none
 n_set:mg "set"=none
 n_sorted:mg "sorted"=none
 n_sum:mg "sum"=none
 n_tuple:mg "tuple"=none
 g_0:mg "CoverError"=some (.ref t.a_0)
 g_1:mg "NoStock"=some (.ref t.a_1)
 g_2:mg "NoOffer"=some (.ref t.a_2)
 g_3:mg "NoThing"=some (.ref t.a_3)
 g_4:mg "NoCover"=some (.ref t.a_4)
 g_5:mg "NoPaper"=some (.ref t.a_5)
 g_6:mg "NoNumber"=some (.ref t.a_6)
 g_7:mg "NotFull"=some (.ref t.a_7)
 g_8:mg "NotInRow"=some (.ref t.a_8)
 g_9:mg "NoText"=some (.ref t.a_9)
 g_10:mg "NoRow"=some (.ref t.a_10)
 g_11:mg "TooMany"=some (.ref t.a_11)
 k_1:zbt K "NoStock" t.a_1
 k_2:zbt K "NoOffer" t.a_2
 k_3:zbt K "NoThing" t.a_3
 k_4:zbt K "NoCover" t.a_4
 k_5:zbt K "NoPaper" t.a_5
 k_6:zbt K "NoNumber" t.a_6
 k_7:zbt K "NotFull" t.a_7
 k_8:zbt K "NotInRow" t.a_8
 k_9:zbt K "NoText" t.a_9
 k_10:zbt K "NoRow" t.a_10
 k_11:zbt K "TooMany" t.a_11
 x_exc:zkN K t.a_0 zbK
 m_20:mg "_law_cell"=some (.ref t.a_20)
 F_20:Fun K "_law_cell" "_law_cell" s_20 t.a_20 t.d_20
 b_20:zaN K t.d_20 ["script","k"] []
 m_21:mg "_law_box"=some (.ref t.a_21)
 F_21:Fun K "_law_box" "_law_box" s_21 t.a_21 t.d_21
 b_21:zaN K t.d_21 ["script","k"] []
 m_22:mg "_law_take"=some (.ref t.a_22)
 F_22:Fun K "_law_take" "_law_take" s_22 t.a_22 t.d_22
 b_22:zaN K t.d_22 ["box","many"] []
 m_29:mg "_law_rowed"=some (.ref t.a_29)
 F_29:Fun K "_law_rowed" "_law_rowed" s_29 t.a_29 t.d_29
 b_29:zaN K t.d_29 ["box","most","lots"] []
 m_30:mg "_law_order"=some (.ref t.a_30)
 F_30:Fun K "_law_order" "_law_order" s_30 t.a_30 t.d_30
 b_30:zaN K t.d_30 ["box","many"] []
 m_33:mg "_law_laid"=some (.ref t.a_33)
 F_33:Fun K "_law_laid" "_law_laid" s_33 t.a_33 t.d_33
 b_33:zaN K t.d_33 ["stock","order"] []
 m_26:mg "_law_things"=some (.ref t.a_26)
 F_26:Fun K "_law_things" "_law_things" s_26 t.a_26 t.d_26
 b_26:zaN K t.d_26 ["box","many"] []
 m_27:mg "_law_full"=some (.ref t.a_27)
 F_27:Fun K "_law_full" "_law_full" s_27 t.a_27 t.d_27
 b_27:zaN K t.d_27 ["box","most","lots"] []
 m_17:mg "is_stretch"=some (.ref t.a_17)
 F_17:Fun K "is_stretch" "is_stretch" s_17 t.a_17 t.d_17
 b_17:zaN K t.d_17 ["things"] []
 m_14:mg "in_row"=some (.ref t.a_14)
 F_14:Fun K "in_row" "in_row" s_14 t.a_14 t.d_14
 b_14:zaN K t.d_14 ["stock"] []
 m_34:mg "_law_in_row"=some (.ref t.a_34)
 F_34:Fun K "_law_in_row" "_law_in_row" s_34 t.a_34 t.d_34
 b_34:zaN K t.d_34 ["stock"] []
 m_24:mg "_law_odd"=some (.ref t.a_24)
 F_24:Fun K "_law_odd" "_law_odd" s_24 t.a_24 t.d_24
 b_24:zaN K t.d_24 ["box"] []
 m_28:mg "_law_bent"=some (.ref t.a_28)
 F_28:Fun K "_law_bent" "_law_bent" s_28 t.a_28 t.d_28
 b_28:zaN K t.d_28 ["box","lot","many"] []
 m_23:mg "_law_whole"=some (.ref t.a_23)
 F_23:Fun K "_law_whole" "_law_whole" s_23 t.a_23 t.d_23
 b_23:zaN K t.d_23 ["thing"] []
 m_32:mg "_law_is_order"=some (.ref t.a_32)
 F_32:Fun K "_law_is_order" "_law_is_order" s_32 t.a_32 t.d_32
 b_32:zaN K t.d_32 ["stock","thing"] []
 m_13:mg "narrowed"=some (.ref t.a_13)
 F_13:Fun K "narrowed" "narrowed" s_13 t.a_13 t.d_13
 b_13:zaN K t.d_13 ["offer","things"] []
 m_19:mg "laid_by"=some (.ref t.a_19)
 F_19:Fun K "laid_by" "laid_by" s_19 t.a_19 t.d_19
 b_19:zaN K t.d_19 ["stock","order"] []
 m_12:mg "is_whole"=some (.ref t.a_12)
 F_12:Fun K "is_whole" "is_whole" s_12 t.a_12 t.d_12
 b_12:zaN K t.d_12 ["thing"] []
 m_18:mg "is_order"=some (.ref t.a_18)
 F_18:Fun K "is_order" "is_order" s_18 t.a_18 t.d_18
 b_18:zaN K t.d_18 ["stock","thing"] []
 m_15:mg "makes_row"=some (.ref t.a_15)
 F_15:Fun K "makes_row" "makes_row" s_15 t.a_15 t.d_15
 b_15:zaN K t.d_15 ["stock","thing"] []
 m_25:mg "_law_kind"=some (.ref t.a_25)
 F_25:Fun K "_law_kind" "_law_kind" s_25 t.a_25 t.d_25
 b_25:zaN K t.d_25 ["e"] []
 m_16:mg "laid"=some (.ref t.a_16)
 F_16:Fun K "laid" "laid" s_16 t.a_16 t.d_16
 b_16:zaN K t.d_16 ["stock","order"] []
 m_31:mg "_law_asked"=some (.ref t.a_31)
 F_31:Fun K "_law_asked" "_law_asked" s_31 t.a_31 t.d_31
 b_31:zaN K t.d_31 ["stock","thing"] []
 m_35:mg "_law_right"=some (.ref t.a_35)
 F_35:Fun K "_law_right" "_law_right" s_35 t.a_35 t.d_35
 b_35:zaN K t.d_35 ["stock","thing"] []
 m_36:mg "law"=some (.ref t.a_36)
 F_36:Fun K "law" "law" s_36 t.a_36 t.d_36
 b_36:zaN K t.d_36 ["script"] []
section
variable {P:Program} {w:World} {K:W.Frag} {mg:Str->Option Value} {base:Heap} {t:Ad}
theorem sc_20:zau ["script","k"] ["script","k"] (zae s_20):=⟨rfl,rfl,rfl,by decide +kernel,rfl,by decide +kernel,by decide +kernel⟩
theorem ok_20 (T:Tx K mg t):zbw P w K mg base CX0 1 t.a_20 t.d_20 ["script","k"] (zb6 K 2 F_20):=by
 refine zby (k:=0) (G:=G_20) (N:=["script","k"]) (ps:=["script","k"]) (st:=s_20) T.F_20 sc_20 fun cdv A outer s H E hr=> ?_
 refine zaj ?_ ?_
 refine zhr ?_ ?_ ?_
 refine zb2 ?_ ?_ ?_
 exact zp3
 exact zac 1
 refine zaL (id:="len") ?_ ?_ ?_ ?_
 exact zbA
 exact zec
 exact T.n_len
 refine zaa ?_ ?_
 exact zac 0
 exact zad
 refine zar ?_
 refine zaX ?_
 refine zb4 ?_ ?_
 exact zac 0
 exact zac 1
 exact zbM
 refine zar ?_
 refine zaX ?_
 refine za7 ?_ ?_ ?_
 exact zap
 refine za7 ?_ ?_ ?_
 exact zcW
 exact zai
 exact zac 1
 exact zai
theorem nd_21:(["script","k","cell","number","mixed","j"]:List Str).Nodup:=by decide +kernel
theorem sc_21:zau ["script","k","cell","number","mixed","j"] ["script","k"] (zae s_21):=⟨rfl,rfl,rfl,by decide +kernel,rfl,by decide +kernel,by decide +kernel⟩
theorem ok_21 (T:Tx K mg t):zbw P w K mg base CX0 2 t.a_21 t.d_21 ["script","k"] (zb6 K 2 F_21):=by
 have G_20:=ok_20 (P:=P) (w:=w) (base:=base) T
 refine zby (k:=1) (G:=G_21) (N:=["script","k","cell","number","mixed","j"]) (ps:=["script","k"]) (st:=s_21) T.F_21 sc_21 fun cdv A outer s H E hr=> ?_
 refine zaj ?_ ?_
 refine zaS 2 ?_ ?_
 exact nd_21
 refine zao (k:=1) (g:=t.a_20) (fd:=t.d_20) (ps:=["script","k"]) ?_ ?_ ?_ ?_ ?_ ?_
 exact G_20
 exact (hr.mono (by decide))
 exact T.m_20
 exact T.F_20.kp
 exact T.b_20
 refine zaa ?_ ?_
 exact zac 0
 refine zaa ?_ ?_
 exact zac 1
 exact zad
 refine zaj ?_ ?_
 refine zhr ?_ ?_ ?_
 refine zb2 ?_ ?_ ?_
 exact (zcM (zgk hr))
 refine za7 ?_ ?_ ?_
 exact zeC
 exact zac 2
 exact zai
 exact zai
 refine zar ?_
 refine zaX ?_
 refine zgG ?_
 refine zaa ?_ ?_
 refine za7 ?_ ?_ ?_
 exact zhX
 exact zac 2
 exact zai
 exact zad
 exact zbM
 refine zaj ?_ ?_
 refine zaS 3 ?_ ?_
 exact nd_21
 exact zai
 refine zaj ?_ ?_
 refine zaS 4 ?_ ?_
 exact nd_21
 refine za7 ?_ ?_ ?_
 exact zeC
 exact zac 2
 exact zai
 refine zaj ?_ ?_
 refine zjV ?_ ?_ ?_ ?_ ?_
 exact rfl
 exact PassesOwn.never
 refine zeO ?_ ?_
 exact T.n_range
 refine zaa ?_ ?_
 exact zai
 exact zad
 exact zav 5 nd_21
 refine zaj ?_ ?_
 refine zaS 4 ?_ ?_
 exact nd_21
 refine za7 ?_ ?_ ?_
 exact zeC
 refine za7 ?_ ?_ ?_
 exact zap
 refine za7 ?_ ?_ ?_
 exact zap
 refine za7 ?_ ?_ ?_
 exact zap
 refine za7 ?_ ?_ ?_
 exact zcW
 exact zac 4
 exact zai
 refine za7 ?_ ?_ ?_
 exact zcW
 refine za7 ?_ ?_ ?_
 exact zcW
 exact zai
 exact zac 5
 exact zac 5
 refine za7 ?_ ?_ ?_
 exact zcW
 exact zai
 exact zac 1
 exact zai
 exact zai
 refine zar ?_
 refine zaS 3 ?_ ?_
 exact nd_21
 refine za7 ?_ ?_ ?_
 exact zap
 refine za7 ?_ ?_ ?_
 exact zcW
 exact zac 3
 exact zai
 exact zac 4
 refine zar ?_
 refine zaX ?_
 refine zgG ?_
 refine zaa ?_ ?_
 exact zac 3
 exact zad
theorem nd_22:(["box","many","digit"]:List Str).Nodup:=by decide +kernel
theorem sc_22:zau ["box","many","digit"] ["box","many"] (zae s_22):=⟨rfl,rfl,rfl,by decide +kernel,rfl,by decide +kernel,by decide +kernel⟩
theorem ok_22 (T:Tx K mg t):zbw P w K mg base CX0 1 t.a_22 t.d_22 ["box","many"] (zb6 K 2 F_22):=by
 refine zby (k:=0) (G:=G_22) (N:=["box","many","digit"]) (ps:=["box","many"]) (st:=s_22) T.F_22 sc_22 fun cdv A outer s H E hr=> ?_
 refine zaj ?_ ?_
 refine zaS 2 ?_ ?_
 exact nd_22
 refine za7 ?_ ?_ ?_
 exact zeC
 refine zb4 ?_ ?_
 exact zac 0
 exact zai
 exact zac 1
 refine zaj ?_ ?_
 refine zou ?_ ?_
 refine za7 ?_ ?_ ?_
 exact zhX
 refine zb4 ?_ ?_
 exact zac 0
 exact zai
 exact zac 1
 refine zmv ?_ ?_
 exact zac 0
 exact zai
 refine zar ?_
 refine zaX ?_
 exact zac 2
theorem nd_29:(["box","most","lots","many","far","offers","turn","first","last","met","things","price","lacks"]:List Str).Nodup:=by decide +kernel
theorem zpI:(["thing","met"]:List Str).Nodup:=by decide +kernel
theorem sc_29:zau ["box","most","lots","many","far","offers","turn","first","last","met","things","price","lacks"] ["box","most","lots"] (zae s_29):=⟨rfl,rfl,rfl,by decide +kernel,rfl,by decide +kernel,by decide +kernel⟩
theorem ok_29 (T:Tx K mg t):zbw P w K mg base CX0 2 t.a_29 t.d_29 ["box","most","lots"] (zb6 K 3 F_29):=by
 have G_22:=ok_22 (P:=P) (w:=w) (base:=base) T
 refine zby (k:=1) (G:=G_29) (N:=["box","most","lots","many","far","offers","turn","first","last","met","things","price","lacks"]) (ps:=["box","most","lots"]) (st:=s_29) T.F_29 sc_29 fun cdv A outer s H E hr=> ?_
 refine zaj ?_ ?_
 refine zaS 3 ?_ ?_
 exact nd_29
 refine za7 ?_ ?_ ?_
 exact zap
 exact zai
 refine zao (k:=1) (g:=t.a_22) (fd:=t.d_22) (ps:=["box","many"]) ?_ ?_ ?_ ?_ ?_ ?_
 exact G_22
 exact (hr.mono (by decide))
 exact T.m_22
 exact T.F_22.kp
 exact T.b_22
 refine zaa ?_ ?_
 exact zac 0
 refine zaa ?_ ?_
 exact zac 1
 exact zad
 refine zaj ?_ ?_
 refine zaS 4 ?_ ?_
 exact nd_29
 refine zb4 ?_ ?_
 refine zcc ?_
 refine zaa ?_ ?_
 exact zai
 refine zaa ?_ ?_
 exact zai
 refine zaa ?_ ?_
 exact zai
 refine zaa ?_ ?_
 refine za7 ?_ ?_ ?_
 exact zkh
 exact zai
 exact zai
 exact zad
 refine zao (k:=1) (g:=t.a_22) (fd:=t.d_22) (ps:=["box","many"]) ?_ ?_ ?_ ?_ ?_ ?_
 exact G_22
 exact (hr.mono (by decide))
 exact T.m_22
 exact T.F_22.kp
 exact T.b_22
 refine zaa ?_ ?_
 exact zac 0
 refine zaa ?_ ?_
 exact zai
 exact zad
 refine zaj ?_ ?_
 refine zaS 5 ?_ ?_
 exact nd_29
 refine zgG ?_
 exact zad
 refine zaj ?_ ?_
 refine zjV ?_ ?_ ?_ ?_ ?_
 exact rfl
 exact PassesOwn.never
 refine zeO ?_ ?_
 exact T.n_range
 refine zaa ?_ ?_
 refine za7 ?_ ?_ ?_
 exact zap
 exact zai
 refine zao (k:=1) (g:=t.a_22) (fd:=t.d_22) (ps:=["box","many"]) ?_ ?_ ?_ ?_ ?_ ?_
 exact G_22
 exact (hr.mono (by decide))
 exact T.m_22
 exact T.F_22.kp
 exact T.b_22
 refine zaa ?_ ?_
 exact zac 0
 refine zaa ?_ ?_
 refine za7 ?_ ?_ ?_
 exact zeu
 exact zac 2
 exact zai
 exact zad
 exact zad
 exact zav 6 nd_29
 refine zaj ?_ ?_
 refine zaS 7 ?_ ?_
 exact nd_29
 refine zao (k:=1) (g:=t.a_22) (fd:=t.d_22) (ps:=["box","many"]) ?_ ?_ ?_ ?_ ?_ ?_
 exact G_22
 exact (hr.mono (by decide))
 exact T.m_22
 exact T.F_22.kp
 exact T.b_22
 refine zaa ?_ ?_
 exact zac 0
 refine zaa ?_ ?_
 exact zac 3
 exact zad
 refine zaj ?_ ?_
 refine zaS 8 ?_ ?_
 exact nd_29
 refine zaL (id:="min") ?_ ?_ ?_ ?_
 exact (ze1 rfl)
 exact zmm
 exact T.n_min
 refine zaa ?_ ?_
 exact zac 3
 refine zaa ?_ ?_
 refine za7 ?_ ?_ ?_
 exact zap
 refine za7 ?_ ?_ ?_
 exact zap
 exact zac 7
 exact zai
 refine zao (k:=1) (g:=t.a_22) (fd:=t.d_22) (ps:=["box","many"]) ?_ ?_ ?_ ?_ ?_ ?_
 exact G_22
 exact (hr.mono (by decide))
 exact T.m_22
 exact T.F_22.kp
 exact T.b_22
 refine zaa ?_ ?_
 exact zac 0
 refine zaa ?_ ?_
 refine zb4 ?_ ?_
 refine zcc ?_
 refine zaa ?_ ?_
 exact zai
 refine zaa ?_ ?_
 exact zai
 refine zaa ?_ ?_
 exact zac 3
 exact zad
 refine zao (k:=1) (g:=t.a_22) (fd:=t.d_22) (ps:=["box","many"]) ?_ ?_ ?_ ?_ ?_ ?_
 exact G_22
 exact (hr.mono (by decide))
 exact T.m_22
 exact T.F_22.kp
 exact T.b_22
 refine zaa ?_ ?_
 exact zac 0
 refine zaa ?_ ?_
 exact zai
 exact zad
 exact zad
 exact zad
 refine zar ?_
 refine zhH ?_
 refine zfL ?_ ?_
 exact zac 5
 refine zbu ?_
 refine zaa ?_ ?_
 refine zd8 ?_ ?_ ?_ ?_ ?_
 exact rfl
 exact T.n_tuple
 exact T.n_range
 exact zac 7
 exact zac 8
 refine zaa ?_ ?_
 refine za7 ?_ ?_ ?_
 exact zap
 exact zai
 refine zao (k:=1) (g:=t.a_22) (fd:=t.d_22) (ps:=["box","many"]) ?_ ?_ ?_ ?_ ?_ ?_
 exact G_22
 exact (hr.mono (by decide))
 exact T.m_22
 exact T.F_22.kp
 exact T.b_22
 refine zaa ?_ ?_
 exact zac 0
 refine zaa ?_ ?_
 exact zac 4
 exact zad
 exact zad
 refine zaj ?_ ?_
 refine zaS 9 ?_ ?_
 exact nd_29
 refine zcc ?_
 exact zad
 refine zaj ?_ ?_
 refine zpJ ?_ ?_ ?_ ?_ ?_
 exact rfl
 exact PassesOwn.never
 exact zac 5
 refine ze5 ?_ ?_
 exact rfl
 refine za4 ?_ ?_
 exact zav 10 nd_29
 refine za4 ?_ ?_
 exact zav 11 nd_29
 exact zdE
 refine zar ?_
 refine zaS 9 ?_ ?_
 exact nd_29
 refine za7 ?_ ?_ ?_
 exact zap
 exact zac 9
 refine zaO (T:="list") ?_ ?_ ?_ ?_
 exact zfc
 exact zjq
 exact T.n_list
 refine zaa ?_ ?_
 exact zac 10
 exact zad
 refine zaj ?_ ?_
 refine zgD 12 (N:=["thing","met"]) ?_ ?_ ?_ ?_ ?_ ?_ ?_ ?_
 exact rfl
 exact nd_29
 exact (BOk.of (Xn:=(zae s_29).names) (XN:=["box","most","lots","many","far","offers","turn","first","last","met","things","price","lacks"]) rfl rfl rfl (by decide +kernel))
 exact (zaF.name (i:=0) rfl)
 refine zeO ?_ ?_
 exact T.n_range
 refine zaa ?_ ?_
 exact zac 3
 exact zad
 intro _ _ _
 exact zav 0 zpI
 intro _ _ _
 refine zh4 ?_
 refine zb2 ?_ ?_ ?_
 exact (ziV (zgk hr))
 exact zac 0
 exact zac 1
 intro _ _ _
 exact zac 0
 refine zaj ?_ ?_
 refine zhr ?_ ?_ ?_
 refine zb2 ?_ ?_ ?_
 exact (zh8 (zgk hr))
 exact zac 12
 refine zcc ?_
 exact zad
 refine zar ?_
 refine zhH ?_
 refine zfL ?_ ?_
 exact zac 5
 refine zbu ?_
 refine zaa ?_ ?_
 refine zd8 ?_ ?_ ?_ ?_ ?_
 exact rfl
 exact T.n_tuple
 exact T.n_range
 refine zb4 ?_ ?_
 exact zac 12
 exact zai
 refine za7 ?_ ?_ ?_
 exact zap
 refine zb4 ?_ ?_
 exact zac 12
 refine zj9 ?_
 exact zai
 exact zai
 refine zaa ?_ ?_
 refine za7 ?_ ?_ ?_
 exact zap
 exact zai
 refine zao (k:=1) (g:=t.a_22) (fd:=t.d_22) (ps:=["box","many"]) ?_ ?_ ?_ ?_ ?_ ?_
 exact G_22
 exact (hr.mono (by decide))
 exact T.m_22
 exact T.F_22.kp
 exact T.b_22
 refine zaa ?_ ?_
 exact zac 0
 refine zaa ?_ ?_
 exact zac 4
 exact zad
 exact zad
 exact zbM
 refine zaj ?_ ?_
 refine zhH ?_
 refine zlC ?_ ?_ ?_
 exact zac 5
 refine zao (k:=1) (g:=t.a_22) (fd:=t.d_22) (ps:=["box","many"]) ?_ ?_ ?_ ?_ ?_ ?_
 exact G_22
 exact (hr.mono (by decide))
 exact T.m_22
 exact T.F_22.kp
 exact T.b_22
 refine zaa ?_ ?_
 exact zac 0
 refine zaa ?_ ?_
 refine za7 ?_ ?_ ?_
 exact zap
 refine zaL (id:="len") ?_ ?_ ?_ ?_
 exact zbA
 exact zec
 exact T.n_len
 refine zaa ?_ ?_
 exact zac 5
 exact zad
 exact zai
 exact zad
 refine zbu ?_
 refine zaa ?_ ?_
 refine zhC ?_ ?_ ?_ ?_
 exact rfl
 exact T.n_tuple
 exact T.n_range
 exact zac 3
 refine zaa ?_ ?_
 refine za7 ?_ ?_ ?_
 exact zap
 exact zai
 refine zao (k:=1) (g:=t.a_22) (fd:=t.d_22) (ps:=["box","many"]) ?_ ?_ ?_ ?_ ?_ ?_
 exact G_22
 exact (hr.mono (by decide))
 exact T.m_22
 exact T.F_22.kp
 exact T.b_22
 refine zaa ?_ ?_
 exact zac 0
 refine zaa ?_ ?_
 exact zac 4
 exact zad
 exact zad
 refine zar ?_
 refine zaX ?_
 refine zbu ?_
 refine zaa ?_ ?_
 exact zac 3
 refine zaa ?_ ?_
 refine zaO (T:="tuple") ?_ ?_ ?_ ?_
 exact zaC
 exact zaT
 exact T.n_tuple
 refine zaa ?_ ?_
 refine zbN ?_ ?_ ?_
 refine zrx ?_
 exact zac 5
 exact zcs
 refine zcp ?_
 exact zac 2
 exact zad
 exact zad
theorem nd_30:(["box","many","left"]:List Str).Nodup:=by decide +kernel
theorem zpc:(["thing","left","box"]:List Str).Nodup:=by decide +kernel
theorem sc_30:zau ["box","many","left"] ["box","many"] (zae s_30):=⟨rfl,rfl,rfl,by decide +kernel,rfl,by decide +kernel,by decide +kernel⟩
theorem ok_30 (T:Tx K mg t):zbw P w K mg base CX0 2 t.a_30 t.d_30 ["box","many"] (zb6 K 2 F_30):=by
 have G_22:=ok_22 (P:=P) (w:=w) (base:=base) T
 refine zby (k:=1) (G:=G_30) (N:=["box","many","left"]) (ps:=["box","many"]) (st:=s_30) T.F_30 sc_30 fun cdv A outer s H E hr=> ?_
 refine zaj ?_ ?_
 refine zaS 2 ?_ ?_
 exact nd_30
 refine zlg ?_ ?_ ?_ ?_
 exact rfl
 exact T.n_list
 exact T.n_range
 exact zac 1
 refine zar ?_
 refine zaX ?_
 refine zaO (T:="tuple") ?_ ?_ ?_ ?_
 exact zaC
 exact zaT
 exact T.n_tuple
 refine zaa ?_ ?_
 refine zbC (N:=["thing","left","box"]) ?_ ?_ ?_ ?_ ?_ ?_ ?_
 exact rfl
 exact (BOk.of (Xn:=(zae s_30).names) (XN:=["box","many","left"]) rfl rfl rfl (by decide +kernel))
 exact (zaF.name (i:=0) rfl)
 refine zeO ?_ ?_
 exact T.n_range
 refine zaa ?_ ?_
 exact zac 1
 exact zad
 intro _ _ _
 exact zav 0 zpc
 intro _ _ _
 exact zbG
 intro _ _ _
 refine zrZ ?_ ?_
 exact zac 1
 refine zao (k:=1) (g:=t.a_22) (fd:=t.d_22) (ps:=["box","many"]) ?_ ?_ ?_ ?_ ?_ ?_
 exact G_22
 exact (hr.mono (by decide))
 exact T.m_22
 exact T.F_22.kp
 exact T.b_22
 refine zaa ?_ ?_
 exact zac 2
 refine zaa ?_ ?_
 refine zaL (id:="len") ?_ ?_ ?_ ?_
 exact zbA
 exact zec
 exact T.n_len
 refine zaa ?_ ?_
 exact zac 1
 exact zad
 exact zad
 exact zad
theorem nd_33:(["stock","order","places"]:List Str).Nodup:=by decide +kernel
theorem zmA:(["place","thing"]:List Str).Nodup:=by decide +kernel
theorem zmj:(["things","price","places"]:List Str).Nodup:=by decide +kernel
theorem zpA:(["one","places"]:List Str).Nodup:=by decide +kernel
theorem sc_33:zau ["stock","order","places"] ["stock","order"] (zae s_33):=⟨rfl,rfl,rfl,by decide +kernel,rfl,by decide +kernel,by decide +kernel⟩
theorem ok_33 (T:Tx K mg t):zbw P w K mg base CX0 1 t.a_33 t.d_33 ["stock","order"] (zb6 K 2 F_33):=by
 refine zby (k:=0) (G:=G_33) (N:=["stock","order","places"]) (ps:=["stock","order"]) (st:=s_33) T.F_33 sc_33 fun cdv A outer s H E hr=> ?_
 refine zaj ?_ ?_
 refine zaS 2 ?_ ?_
 exact nd_33
 refine zaO (T:="dict") ?_ ?_ ?_ ?_
 exact (ziq rfl)
 exact znO
 exact T.n_dict
 refine zaa ?_ ?_
 refine zbC (N:=["place","thing"]) ?_ ?_ ?_ ?_ ?_ ?_ ?_
 exact rfl
 exact (BOk.of (Xn:=(zae s_33).names) (XN:=["stock","order","places"]) rfl rfl rfl (by decide +kernel))
 exact (zaF.tup (zaW.cons (i:=0) rfl (zaW.cons (i:=1) rfl zaW.nil)))
 refine zme ?_ ?_
 exact T.n_enumerate
 exact zac 1
 intro _ _ _
 refine ze5 ?_ ?_
 exact rfl
 refine za4 ?_ ?_
 exact zav 0 zmA
 refine za4 ?_ ?_
 exact zav 1 zmA
 exact zdE
 intro _ _ _
 exact zbG
 intro _ _ _
 refine zbu ?_
 refine zaa ?_ ?_
 exact zac 1
 refine zaa ?_ ?_
 exact zac 0
 exact zad
 exact zad
 refine zar ?_
 refine zaX ?_
 refine zbu ?_
 refine zaa ?_ ?_
 refine zb4 ?_ ?_
 exact zac 0
 exact zai
 refine zaa ?_ ?_
 refine zaO (T:="tuple") ?_ ?_ ?_ ?_
 exact zaC
 exact zaT
 exact T.n_tuple
 refine zaa ?_ ?_
 refine zbC (N:=["things","price","places"]) ?_ ?_ ?_ ?_ ?_ ?_ ?_
 exact rfl
 exact (BOk.of (Xn:=(zae s_33).names) (XN:=["stock","order","places"]) rfl rfl rfl (by decide +kernel))
 exact (zaF.tup (zaW.cons (i:=0) rfl (zaW.cons (i:=1) rfl zaW.nil)))
 refine zeE ?_
 refine zb4 ?_ ?_
 exact zac 0
 exact zai
 intro _ _ _
 refine ze5 ?_ ?_
 exact rfl
 refine za4 ?_ ?_
 exact zav 0 zmj
 refine za4 ?_ ?_
 exact zav 1 zmj
 exact zdE
 intro _ _ _
 exact zbG
 intro _ _ _
 refine zbu ?_
 refine zaa ?_ ?_
 refine zaO (T:="tuple") ?_ ?_ ?_ ?_
 exact zaC
 exact zaT
 exact T.n_tuple
 refine zaa ?_ ?_
 refine zaL (id:="sorted") ?_ ?_ ?_ ?_
 exact (zbQ rfl)
 exact zdb
 exact T.n_sorted
 refine zaa ?_ ?_
 refine zbC (N:=["one","places"]) ?_ ?_ ?_ ?_ ?_ ?_ ?_
 exact rfl
 exact (BOk.of (N:=["one","places"]) (src:=[none,some 2]) rfl rfl rfl (by rfl))
 exact (zaF.name (i:=0) rfl)
 refine zeE ?_
 exact zac 0
 intro _ _ _
 exact zav 0 zpA
 intro _ _ _
 exact zbG
 intro _ _ _
 refine zrf ?_ ?_
 exact zac 1
 exact zac 0
 exact zad
 exact zad
 refine zaa ?_ ?_
 exact zac 1
 exact zad
 exact zad
 exact zad
theorem nd_26:(["box","many","way","bits","first","step"]:List Str).Nodup:=by decide +kernel
theorem zry:(["thing","bits"]:List Str).Nodup:=by decide +kernel
theorem zq2:(["k","first","step","many"]:List Str).Nodup:=by decide +kernel
theorem sc_26:zau ["box","many","way","bits","first","step"] ["box","many"] (zae s_26):=⟨rfl,rfl,rfl,by decide +kernel,rfl,by decide +kernel,by decide +kernel⟩
theorem ok_26 (T:Tx K mg t):zbw P w K mg base CX0 2 t.a_26 t.d_26 ["box","many"] (zb6 K 2 F_26):=by
 have G_22:=ok_22 (P:=P) (w:=w) (base:=base) T
 refine zby (k:=1) (G:=G_26) (N:=["box","many","way","bits","first","step"]) (ps:=["box","many"]) (st:=s_26) T.F_26 sc_26 fun cdv A outer s H E hr=> ?_
 refine zaj ?_ ?_
 refine zaS 2 ?_ ?_
 exact nd_26
 refine zao (k:=1) (g:=t.a_22) (fd:=t.d_22) (ps:=["box","many"]) ?_ ?_ ?_ ?_ ?_ ?_
 exact G_22
 exact (hr.mono (by decide))
 exact T.m_22
 exact T.F_22.kp
 exact T.b_22
 refine zaa ?_ ?_
 exact zac 0
 refine zaa ?_ ?_
 exact zai
 exact zad
 refine zaj ?_ ?_
 refine zhr ?_ ?_ ?_
 refine zb2 ?_ ?_ ?_
 exact (zcM (zgk hr))
 exact zac 2
 exact zai
 refine zaj ?_ ?_
 refine zaS 3 ?_ ?_
 exact nd_26
 refine za7 ?_ ?_ ?_
 exact zap
 exact zai
 refine zao (k:=1) (g:=t.a_22) (fd:=t.d_22) (ps:=["box","many"]) ?_ ?_ ?_ ?_ ?_ ?_
 exact G_22
 exact (hr.mono (by decide))
 exact T.m_22
 exact T.F_22.kp
 exact T.b_22
 refine zaa ?_ ?_
 exact zac 0
 refine zaa ?_ ?_
 refine za7 ?_ ?_ ?_
 exact zeu
 refine za7 ?_ ?_ ?_
 exact znd
 exact zai
 exact zac 1
 exact zai
 exact zad
 refine zar ?_
 refine zaX ?_
 refine zaO (T:="tuple") ?_ ?_ ?_ ?_
 exact zaC
 exact zaT
 exact T.n_tuple
 refine zaa ?_ ?_
 refine zbC (N:=["thing","bits"]) ?_ ?_ ?_ ?_ ?_ ?_ ?_
 exact rfl
 exact (BOk.of (Xn:=(zae s_26).names) (XN:=["box","many","way","bits","first","step"]) rfl rfl rfl (by decide +kernel))
 exact (zaF.name (i:=0) rfl)
 refine zeO ?_ ?_
 exact T.n_range
 refine zaa ?_ ?_
 exact zac 1
 exact zad
 intro _ _ _
 exact zav 0 zry
 intro _ _ _
 refine zh4 ?_
 refine zb2 ?_ ?_ ?_
 exact (zcM (zgk hr))
 refine za7 ?_ ?_ ?_
 exact zn6
 refine za7 ?_ ?_ ?_
 exact zoo
 exact zac 1
 exact zac 0
 exact zai
 exact zai
 intro _ _ _
 exact zac 0
 exact zad
 exact zbM
 refine zaj ?_ ?_
 refine zou ?_ ?_
 refine zbu ?_
 refine zaa ?_ ?_
 refine zao (k:=1) (g:=t.a_22) (fd:=t.d_22) (ps:=["box","many"]) ?_ ?_ ?_ ?_ ?_ ?_
 exact G_22
 exact (hr.mono (by decide))
 exact T.m_22
 exact T.F_22.kp
 exact T.b_22
 refine zaa ?_ ?_
 exact zac 0
 refine zaa ?_ ?_
 exact zac 1
 exact zad
 refine zaa ?_ ?_
 refine zb4 ?_ ?_
 refine zcc ?_
 refine zaa ?_ ?_
 exact zai
 refine zaa ?_ ?_
 refine za7 ?_ ?_ ?_
 exact zap
 exact zai
 refine zao (k:=1) (g:=t.a_22) (fd:=t.d_22) (ps:=["box","many"]) ?_ ?_ ?_ ?_ ?_ ?_
 exact G_22
 exact (hr.mono (by decide))
 exact T.m_22
 exact T.F_22.kp
 exact T.b_22
 refine zaa ?_ ?_
 exact zac 0
 refine zaa ?_ ?_
 exact zai
 exact zad
 exact zad
 refine za7 ?_ ?_ ?_
 exact zeu
 exact zac 2
 exact zai
 exact zad
 refine ze5 ?_ ?_
 exact rfl
 refine za4 ?_ ?_
 exact zav 4 nd_26
 refine za4 ?_ ?_
 exact zav 5 nd_26
 exact zdE
 refine zar ?_
 refine zaX ?_
 refine zaO (T:="tuple") ?_ ?_ ?_ ?_
 exact zaC
 exact zaT
 exact T.n_tuple
 refine zaa ?_ ?_
 refine zfS ?_ ?_ ?_ ?_
 exact rfl
 exact T.n_sorted
 exact T.n_set
 refine zbC (N:=["k","first","step","many"]) ?_ ?_ ?_ ?_ ?_ ?_ ?_
 exact rfl
 exact (BOk.of (Xn:=(zae s_26).names) (XN:=["box","many","way","bits","first","step"]) rfl rfl rfl (by decide +kernel))
 exact (zaF.name (i:=0) rfl)
 refine zeO ?_ ?_
 exact T.n_range
 refine zaa ?_ ?_
 refine za7 ?_ ?_ ?_
 exact zap
 exact zai
 refine zao (k:=1) (g:=t.a_22) (fd:=t.d_22) (ps:=["box","many"]) ?_ ?_ ?_ ?_ ?_ ?_
 exact G_22
 exact (hr.mono (by decide))
 exact T.m_22
 exact T.F_22.kp
 exact T.b_22
 refine zaa ?_ ?_
 exact zac 0
 refine zaa ?_ ?_
 exact zai
 exact zad
 exact zad
 intro _ _ _
 exact zav 0 zq2
 intro _ _ _
 exact zbG
 intro _ _ _
 refine za7 ?_ ?_ ?_
 exact zeC
 refine za7 ?_ ?_ ?_
 exact zap
 exact zac 1
 refine za7 ?_ ?_ ?_
 exact zcW
 exact zac 2
 exact zac 0
 exact zac 3
 exact zad
theorem nd_27:(["box","most","lots","many","far","rows","thing","row"]:List Str).Nodup:=by decide +kernel
theorem zrX:(["k","box","many","far"]:List Str).Nodup:=by decide +kernel
theorem zr7:(["row","thing"]:List Str).Nodup:=by decide +kernel
theorem zoY:(["row"]:List Str).Nodup:=by decide +kernel
theorem sc_27:zau ["box","most","lots","many","far","rows","thing","row"] ["box","most","lots"] (zae s_27):=⟨rfl,rfl,rfl,by decide +kernel,rfl,by decide +kernel,by decide +kernel⟩
theorem ok_27 (T:Tx K mg t):zbw P w K mg base CX0 3 t.a_27 t.d_27 ["box","most","lots"] (zb6 K 3 F_27):=by
 have G_22:=ok_22 (P:=P) (w:=w) (base:=base) T
 have G_26:=ok_26 (P:=P) (w:=w) (base:=base) T
 refine zby (k:=2) (G:=G_27) (N:=["box","most","lots","many","far","rows","thing","row"]) (ps:=["box","most","lots"]) (st:=s_27) T.F_27 sc_27 fun cdv A outer s H E hr=> ?_
 refine zaj ?_ ?_
 refine zaS 3 ?_ ?_
 exact nd_27
 refine za7 ?_ ?_ ?_
 exact zap
 exact zai
 refine zao (k:=1) (g:=t.a_22) (fd:=t.d_22) (ps:=["box","many"]) ?_ ?_ ?_ ?_ ?_ ?_
 exact G_22
 exact (hr.mono (by decide))
 exact T.m_22
 exact T.F_22.kp
 exact T.b_22
 refine zaa ?_ ?_
 exact zac 0
 refine zaa ?_ ?_
 exact zac 1
 exact zad
 refine zaj ?_ ?_
 refine zaS 4 ?_ ?_
 exact nd_27
 refine zb4 ?_ ?_
 refine zcc ?_
 refine zaa ?_ ?_
 exact zai
 refine zaa ?_ ?_
 exact zai
 refine zaa ?_ ?_
 exact zai
 refine zaa ?_ ?_
 refine za7 ?_ ?_ ?_
 exact zkh
 exact zai
 exact zai
 exact zad
 refine zao (k:=1) (g:=t.a_22) (fd:=t.d_22) (ps:=["box","many"]) ?_ ?_ ?_ ?_ ?_ ?_
 exact G_22
 exact (hr.mono (by decide))
 exact T.m_22
 exact T.F_22.kp
 exact T.b_22
 refine zaa ?_ ?_
 exact zac 0
 refine zaa ?_ ?_
 exact zai
 exact zad
 refine zaj ?_ ?_
 refine zgD 5 (N:=["k","box","many","far"]) ?_ ?_ ?_ ?_ ?_ ?_ ?_ ?_
 exact rfl
 exact nd_27
 exact (BOk.of (Xn:=(zae s_27).names) (XN:=["box","most","lots","many","far","rows","thing","row"]) rfl rfl rfl (by decide +kernel))
 exact (zaF.name (i:=0) rfl)
 refine zeO ?_ ?_
 exact T.n_range
 refine zaa ?_ ?_
 refine za7 ?_ ?_ ?_
 exact zap
 exact zai
 refine zao (k:=1) (g:=t.a_22) (fd:=t.d_22) (ps:=["box","many"]) ?_ ?_ ?_ ?_ ?_ ?_
 exact G_22
 exact (hr.mono (by decide))
 exact T.m_22
 exact T.F_22.kp
 exact T.b_22
 refine zaa ?_ ?_
 exact zac 0
 refine zaa ?_ ?_
 exact zac 2
 exact zad
 exact zad
 intro _ _ _
 exact zav 0 zrX
 intro _ _ _
 exact zbG
 intro _ _ _
 refine zgG ?_
 refine zaa ?_ ?_
 refine zao (k:=2) (g:=t.a_26) (fd:=t.d_26) (ps:=["box","many"]) ?_ ?_ ?_ ?_ ?_ ?_
 exact G_26
 exact (hr.mono (by decide))
 exact T.m_26
 exact T.F_26.kp
 exact T.b_26
 refine zaa ?_ ?_
 exact zac 1
 refine zaa ?_ ?_
 exact zac 2
 exact zad
 refine zaa ?_ ?_
 refine za7 ?_ ?_ ?_
 exact zap
 exact zai
 refine zao (k:=1) (g:=t.a_22) (fd:=t.d_22) (ps:=["box","many"]) ?_ ?_ ?_ ?_ ?_ ?_
 exact G_22
 exact (hr.mono (by decide))
 exact T.m_22
 exact T.F_22.kp
 exact T.b_22
 refine zaa ?_ ?_
 exact zac 1
 refine zaa ?_ ?_
 exact zac 3
 exact zad
 exact zad
 refine zaj ?_ ?_
 refine zjV ?_ ?_ ?_ ?_ ?_
 exact rfl
 exact PassesOwn.never
 refine zeO ?_ ?_
 exact T.n_range
 refine zaa ?_ ?_
 exact zac 3
 exact zad
 exact zav 6 nd_27
 refine zar ?_
 refine zhr ?_ ?_ ?_
 refine zb2 ?_ ?_ ?_
 exact (zqr (zgk hr))
 refine zbC (N:=["row","thing"]) ?_ ?_ ?_ ?_ ?_ ?_ ?_
 exact rfl
 exact (BOk.of (Xn:=(zae s_27).names) (XN:=["box","most","lots","many","far","rows","thing","row"]) rfl rfl rfl (by decide +kernel))
 exact (zaF.name (i:=0) rfl)
 refine zeE ?_
 exact zac 5
 intro _ _ _
 exact zav 0 zr7
 intro _ _ _
 refine zh4 ?_
 refine zb2 ?_ ?_ ?_
 exact (zl4 (zgk hr))
 exact zac 1
 refine zb4 ?_ ?_
 exact zac 0
 exact zai
 intro _ _ _
 exact zac 0
 refine zcc ?_
 exact zad
 refine zaj ?_ ?_
 refine zaS 7 ?_ ?_
 exact nd_27
 refine zb4 ?_ ?_
 exact zac 5
 refine zao (k:=1) (g:=t.a_22) (fd:=t.d_22) (ps:=["box","many"]) ?_ ?_ ?_ ?_ ?_ ?_
 exact G_22
 exact (hr.mono (by decide))
 exact T.m_22
 exact T.F_22.kp
 exact T.b_22
 refine zaa ?_ ?_
 exact zac 0
 refine zaa ?_ ?_
 refine zaL (id:="len") ?_ ?_ ?_ ?_
 exact zbA
 exact zec
 exact T.n_len
 refine zaa ?_ ?_
 exact zac 5
 exact zad
 exact zad
 refine zar ?_
 refine zou ?_ ?_
 refine zaO (T:="tuple") ?_ ?_ ?_ ?_
 exact zaC
 exact zaT
 exact T.n_tuple
 refine zaa ?_ ?_
 refine zaL (id:="sorted") ?_ ?_ ?_ ?_
 exact (zbQ rfl)
 exact zdb
 exact T.n_sorted
 refine zaa ?_ ?_
 refine za7 ?_ ?_ ?_
 exact zap
 refine zb4 ?_ ?_
 exact zac 7
 exact zai
 refine zbu ?_
 refine zaa ?_ ?_
 exact zac 6
 exact zad
 exact zad
 exact zad
 refine zmv ?_ ?_
 exact zac 7
 exact zai
 exact zbM
 refine zar ?_
 refine zaX ?_
 refine zbu ?_
 refine zaa ?_ ?_
 exact zac 3
 refine zaa ?_ ?_
 refine zaO (T:="tuple") ?_ ?_ ?_ ?_
 exact zaC
 exact zaT
 exact T.n_tuple
 refine zaa ?_ ?_
 refine zbC (N:=["row"]) ?_ ?_ ?_ ?_ ?_ ?_ ?_
 exact rfl
 exact (BOk.of (Xn:=(zae s_27).names) (XN:=["box","most","lots","many","far","rows","thing","row"]) rfl rfl rfl (by decide +kernel))
 exact (zaF.name (i:=0) rfl)
 refine zeE ?_
 exact zac 5
 intro _ _ _
 exact zav 0 zoY
 intro _ _ _
 exact zbG
 intro _ _ _
 refine zbu ?_
 refine zaa ?_ ?_
 refine zb4 ?_ ?_
 exact zac 0
 exact zai
 refine zaa ?_ ?_
 refine zb4 ?_ ?_
 exact zac 0
 exact zai
 exact zad
 exact zad
 exact zad
theorem sc_17:zau ["things"] ["things"] (zae s_17):=⟨rfl,rfl,rfl,by decide +kernel,rfl,by decide +kernel,by decide +kernel⟩
theorem ok_17 (T:Tx K mg t):zbw P w K mg base CX0 1 t.a_17 t.d_17 ["things"] (zb6 K 1 F_17):=by
 refine zby (k:=0) (G:=G_17) (N:=["things"]) (ps:=["things"]) (st:=s_17) T.F_17 sc_17 fun cdv A outer s H E hr=> ?_
 refine zar ?_
 refine zaX ?_
 refine zhd ?_ ?_ ?_
 exact (zcM (zgk hr))
 refine za7 ?_ ?_ ?_
 exact zeu
 refine zb4 ?_ ?_
 exact zac 0
 refine zj9 ?_
 exact zai
 refine zb4 ?_ ?_
 exact zac 0
 exact zai
 refine za7 ?_ ?_ ?_
 exact zeu
 refine zaL (id:="len") ?_ ?_ ?_ ?_
 exact zbA
 exact zec
 exact T.n_len
 refine zaa ?_ ?_
 exact zac 0
 exact zad
 exact zai
theorem zrE:(["offer"]:List Str).Nodup:=by decide +kernel
theorem sc_14:zau ["stock"] ["stock"] (zae s_14):=⟨rfl,rfl,rfl,by decide +kernel,rfl,by decide +kernel,by decide +kernel⟩
theorem ok_14 (T:Tx K mg t):zbw P w K mg base CX0 2 t.a_14 t.d_14 ["stock"] (zb6 K 1 F_14):=by
 have G_17:=ok_17 (P:=P) (w:=w) (base:=base) T
 refine zby (k:=1) (G:=G_14) (N:=["stock"]) (ps:=["stock"]) (st:=s_14) T.F_14 sc_14 fun cdv A outer s H E hr=> ?_
 refine zar ?_
 refine zaX ?_
 refine zaL (id:="all") ?_ ?_ ?_ ?_
 exact (zcv rfl)
 exact zgi
 exact T.n_all
 refine zaa ?_ ?_
 refine zbC (N:=["offer"]) ?_ ?_ ?_ ?_ ?_ ?_ ?_
 exact rfl
 exact (BOk.of (Xn:=(zae s_14).names) (XN:=["stock"]) rfl rfl rfl (by decide +kernel))
 exact (zaF.name (i:=0) rfl)
 refine zeE ?_
 refine zb4 ?_ ?_
 exact zac 0
 exact zai
 intro _ _ _
 exact zav 0 zrE
 intro _ _ _
 exact zbG
 intro _ _ _
 refine zao (k:=1) (g:=t.a_17) (fd:=t.d_17) (ps:=["things"]) ?_ ?_ ?_ ?_ ?_ ?_
 exact G_17
 exact (hr.mono (by decide))
 exact T.m_17
 exact T.F_17.kp
 exact T.b_17
 refine zaa ?_ ?_
 refine zb4 ?_ ?_
 exact zac 0
 exact zai
 exact zad
 exact zad
theorem zms:(["things","price"]:List Str).Nodup:=by decide +kernel
theorem sc_34:zau ["stock"] ["stock"] (zae s_34):=⟨rfl,rfl,rfl,by decide +kernel,rfl,by decide +kernel,by decide +kernel⟩
theorem ok_34 (T:Tx K mg t):zbw P w K mg base CX0 1 t.a_34 t.d_34 ["stock"] (zb6 K 1 F_34):=by
 refine zby (k:=0) (G:=G_34) (N:=["stock"]) (ps:=["stock"]) (st:=s_34) T.F_34 sc_34 fun cdv A outer s H E hr=> ?_
 refine zar ?_
 refine zaX ?_
 refine zaL (id:="all") ?_ ?_ ?_ ?_
 exact (zcv rfl)
 exact zgi
 exact T.n_all
 refine zaa ?_ ?_
 refine zbC (N:=["things","price"]) ?_ ?_ ?_ ?_ ?_ ?_ ?_
 exact rfl
 exact (BOk.of (Xn:=(zae s_34).names) (XN:=["stock"]) rfl rfl rfl (by decide +kernel))
 exact (zaF.tup (zaW.cons (i:=0) rfl (zaW.cons (i:=1) rfl zaW.nil)))
 refine zeE ?_
 refine zb4 ?_ ?_
 exact zac 0
 exact zai
 intro _ _ _
 refine ze5 ?_ ?_
 exact rfl
 refine za4 ?_ ?_
 exact zav 0 zms
 refine za4 ?_ ?_
 exact zav 1 zms
 exact zdE
 intro _ _ _
 exact zbG
 intro _ _ _
 refine zhd ?_ ?_ ?_
 exact (zcM (zgk hr))
 exact zac 0
 refine zd8 ?_ ?_ ?_ ?_ ?_
 exact rfl
 exact T.n_tuple
 exact T.n_range
 refine zb4 ?_ ?_
 exact zac 0
 exact zai
 refine za7 ?_ ?_ ?_
 exact zap
 refine zb4 ?_ ?_
 exact zac 0
 refine zj9 ?_
 exact zai
 exact zai
 exact zad
theorem nd_24:(["box","some"]:List Str).Nodup:=by decide +kernel
theorem sc_24:zau ["box","some"] ["box"] (zae s_24):=⟨rfl,rfl,rfl,by decide +kernel,rfl,by decide +kernel,by decide +kernel⟩
theorem ok_24 (T:Tx K mg t):zbw P w K mg base CX0 2 t.a_24 t.d_24 ["box"] (zb6 K 1 F_24):=by
 have G_22:=ok_22 (P:=P) (w:=w) (base:=base) T
 refine zby (k:=1) (G:=G_24) (N:=["box","some"]) (ps:=["box"]) (st:=s_24) T.F_24 sc_24 fun cdv A outer s H E hr=> ?_
 refine zaj ?_ ?_
 refine zaS 1 ?_ ?_
 exact nd_24
 refine zcc ?_
 refine zaa ?_ ?_
 exact zpn
 refine zaa ?_ ?_
 exact zkC
 refine zaa ?_ ?_
 exact zai
 refine zaa ?_ ?_
 exact zcA
 refine zaa ?_ ?_
 exact zcA
 refine zaa ?_ ?_
 refine zbu ?_
 exact zad
 refine zaa ?_ ?_
 refine zcc ?_
 exact zad
 refine zaa ?_ ?_
 exact znM
 refine zaa ?_ ?_
 refine zbu ?_
 refine zaa ?_ ?_
 exact zai
 refine zaa ?_ ?_
 exact zai
 exact zad
 refine zaa ?_ ?_
 refine zbu ?_
 refine zaa ?_ ?_
 exact zai
 exact zad
 refine zaa ?_ ?_
 refine zbu ?_
 refine zaa ?_ ?_
 exact zai
 refine zaa ?_ ?_
 exact zai
 exact zad
 refine zaa ?_ ?_
 refine zj9 ?_
 exact zai
 refine zaa ?_ ?_
 refine zbu ?_
 refine zaa ?_ ?_
 exact zai
 refine zaa ?_ ?_
 exact zai
 exact zad
 refine zaa ?_ ?_
 refine zcc ?_
 refine zaa ?_ ?_
 refine zbu ?_
 refine zaa ?_ ?_
 exact zai
 refine zaa ?_ ?_
 exact zai
 refine zaa ?_ ?_
 exact zai
 exact zad
 exact zad
 refine zaa ?_ ?_
 exact zkC
 refine zaa ?_ ?_
 refine zbu ?_
 refine zaa ?_ ?_
 refine zbu ?_
 refine zaa ?_ ?_
 exact zai
 refine zaa ?_ ?_
 exact zai
 exact zad
 exact zad
 exact zad
 refine zar ?_
 refine zaX ?_
 refine zb4 ?_ ?_
 exact zac 1
 refine zao (k:=1) (g:=t.a_22) (fd:=t.d_22) (ps:=["box","many"]) ?_ ?_ ?_ ?_ ?_ ?_
 exact G_22
 exact (hr.mono (by decide))
 exact T.m_22
 exact T.F_22.kp
 exact T.b_22
 refine zaa ?_ ?_
 exact zac 0
 refine zaa ?_ ?_
 exact zai
 exact zad
theorem nd_28:(["box","lot","many","at","odd","some"]:List Str).Nodup:=by decide +kernel
theorem sc_28:zau ["box","lot","many","at","odd","some"] ["box","lot","many"] (zae s_28):=⟨rfl,rfl,rfl,by decide +kernel,rfl,by decide +kernel,by decide +kernel⟩
theorem ok_28 (T:Tx K mg t):zbw P w K mg base CX0 3 t.a_28 t.d_28 ["box","lot","many"] (zb6 K 3 F_28):=by
 have G_22:=ok_22 (P:=P) (w:=w) (base:=base) T
 have G_24:=ok_24 (P:=P) (w:=w) (base:=base) T
 refine zby (k:=2) (G:=G_28) (N:=["box","lot","many","at","odd","some"]) (ps:=["box","lot","many"]) (st:=s_28) T.F_28 sc_28 fun cdv A outer s H E hr=> ?_
 refine zaj ?_ ?_
 refine zaS 3 ?_ ?_
 exact nd_28
 refine zao (k:=1) (g:=t.a_22) (fd:=t.d_22) (ps:=["box","many"]) ?_ ?_ ?_ ?_ ?_ ?_
 exact G_22
 exact (hr.mono (by decide))
 exact T.m_22
 exact T.F_22.kp
 exact T.b_22
 refine zaa ?_ ?_
 exact zac 0
 refine zaa ?_ ?_
 refine za7 ?_ ?_ ?_
 exact zap
 refine zaL (id:="len") ?_ ?_ ?_ ?_
 exact zbA
 exact zec
 exact T.n_len
 refine zaa ?_ ?_
 exact zac 1
 exact zad
 exact zai
 exact zad
 refine zaj ?_ ?_
 refine zaS 4 ?_ ?_
 exact nd_28
 refine zb4 ?_ ?_
 refine zcc ?_
 refine zaa ?_ ?_
 refine zao (k:=1) (g:=t.a_22) (fd:=t.d_22) (ps:=["box","many"]) ?_ ?_ ?_ ?_ ?_ ?_
 exact G_22
 exact (hr.mono (by decide))
 exact T.m_22
 exact T.F_22.kp
 exact T.b_22
 refine zaa ?_ ?_
 exact zac 0
 refine zaa ?_ ?_
 exact zai
 exact zad
 refine zaa ?_ ?_
 exact zac 2
 refine zaa ?_ ?_
 refine zj9 ?_
 exact zai
 refine zaa ?_ ?_
 exact zkC
 refine zaa ?_ ?_
 exact zpn
 refine zaa ?_ ?_
 exact zcA
 refine zaa ?_ ?_
 refine zbu ?_
 refine zaa ?_ ?_
 exact zai
 exact zad
 refine zaa ?_ ?_
 exact zkC
 exact zad
 refine zao (k:=1) (g:=t.a_22) (fd:=t.d_22) (ps:=["box","many"]) ?_ ?_ ?_ ?_ ?_ ?_
 exact G_22
 exact (hr.mono (by decide))
 exact T.m_22
 exact T.F_22.kp
 exact T.b_22
 refine zaa ?_ ?_
 exact zac 0
 refine zaa ?_ ?_
 exact zai
 exact zad
 refine zaj ?_ ?_
 refine zaS 5 ?_ ?_
 exact nd_28
 refine zcc ?_
 refine zaa ?_ ?_
 refine za7 ?_ ?_ ?_
 exact zap
 refine za7 ?_ ?_ ?_
 exact zap
 refine zbN ?_ ?_ ?_
 exact zac 1
 exact zcs
 refine zcp ?_
 exact zac 3
 refine zbu ?_
 refine zaa ?_ ?_
 exact zac 4
 exact zad
 refine zbN ?_ ?_ ?_
 exact zac 1
 refine zcp ?_
 refine za7 ?_ ?_ ?_
 exact zap
 exact zac 3
 exact zai
 exact zcs
 refine zaa ?_ ?_
 refine za7 ?_ ?_ ?_
 exact zap
 refine zbN ?_ ?_ ?_
 exact zac 1
 exact zcs
 refine zcp ?_
 exact zac 3
 refine zbN ?_ ?_ ?_
 exact zac 1
 refine zcp ?_
 refine za7 ?_ ?_ ?_
 exact zap
 exact zac 3
 exact zai
 exact zcs
 refine zaa ?_ ?_
 refine za7 ?_ ?_ ?_
 exact zap
 refine za7 ?_ ?_ ?_
 exact zap
 refine zbN ?_ ?_ ?_
 exact zac 1
 exact zcs
 refine zcp ?_
 exact zac 3
 refine zbu ?_
 refine zaa ?_ ?_
 exact zac 4
 exact zad
 refine zbN ?_ ?_ ?_
 exact zac 1
 refine zcp ?_
 exact zac 3
 exact zcs
 refine zaa ?_ ?_
 refine zro ?_
 exact zac 1
 exact zad
 refine zaj ?_ ?_
 refine zaS 5 ?_ ?_
 exact nd_28
 refine za7 ?_ ?_ ?_
 exact zap
 exact zac 5
 refine zcc ?_
 refine zaa ?_ ?_
 refine zaO (T:="list") ?_ ?_ ?_ ?_
 exact zfc
 exact zjq
 exact T.n_list
 refine zaa ?_ ?_
 exact zac 1
 exact zad
 refine zaa ?_ ?_
 refine za7 ?_ ?_ ?_
 exact zap
 exact zac 1
 refine zbN ?_ ?_ ?_
 exact zac 1
 exact zcs
 refine zcp ?_
 exact zai
 refine zaa ?_ ?_
 refine zaO (T:="tuple") ?_ ?_ ?_ ?_
 exact zaC
 exact zaT
 exact T.n_tuple
 refine zaa ?_ ?_
 refine zfS ?_ ?_ ?_ ?_
 exact rfl
 exact T.n_sorted
 exact T.n_set
 refine za7 ?_ ?_ ?_
 exact zap
 exact zac 1
 refine zbu ?_
 refine zaa ?_ ?_
 refine zao (k:=1) (g:=t.a_22) (fd:=t.d_22) (ps:=["box","many"]) ?_ ?_ ?_ ?_ ?_ ?_
 exact G_22
 exact (hr.mono (by decide))
 exact T.m_22
 exact T.F_22.kp
 exact T.b_22
 refine zaa ?_ ?_
 exact zac 0
 refine zaa ?_ ?_
 refine zaL (id:="max") ?_ ?_ ?_ ?_
 exact (zeW rfl)
 exact zl7
 exact T.n_max
 refine zaa ?_ ?_
 exact zai
 refine zaa ?_ ?_
 exact zac 2
 exact zad
 exact zad
 exact zad
 exact zad
 exact zad
 refine zaj ?_ ?_
 refine zaS 5 ?_ ?_
 exact nd_28
 refine za7 ?_ ?_ ?_
 exact zap
 exact zac 5
 refine zcc ?_
 refine zaa ?_ ?_
 refine zao (k:=2) (g:=t.a_24) (fd:=t.d_24) (ps:=["box"]) ?_ ?_ ?_ ?_ ?_ ?_
 exact G_24
 exact (hr.mono (by decide))
 exact T.m_24
 exact T.F_24.kp
 exact T.b_24
 refine zaa ?_ ?_
 exact zac 0
 exact zad
 refine zaa ?_ ?_
 exact zac 1
 exact zad
 refine zar ?_
 refine zaX ?_
 refine zb4 ?_ ?_
 exact zac 5
 refine zao (k:=1) (g:=t.a_22) (fd:=t.d_22) (ps:=["box","many"]) ?_ ?_ ?_ ?_ ?_ ?_
 exact G_22
 exact (hr.mono (by decide))
 exact T.m_22
 exact T.F_22.kp
 exact T.b_22
 refine zaa ?_ ?_
 exact zac 0
 refine zaa ?_ ?_
 exact zai
 exact zad
theorem sc_23:zau ["thing"] ["thing"] (zae s_23):=⟨rfl,rfl,rfl,by decide +kernel,rfl,by decide +kernel,by decide +kernel⟩
theorem ok_23 (T:Tx K mg t):zbw P w K mg base CX0 1 t.a_23 t.d_23 ["thing"] (zb6 K 1 F_23):=by
 refine zby (k:=0) (G:=G_23) (N:=["thing"]) (ps:=["thing"]) (st:=s_23) T.F_23 sc_23 fun cdv A outer s H E hr=> ?_
 refine zar ?_
 refine zaX ?_
 refine zjM ?_ ?_
 refine zfK ?_ ?_ ?_ ?_ ?_
 exact zke
 exact zjk
 exact T.n_isinstance
 exact T.n_int
 exact zac 0
 refine zj8 ?_
 refine zpu ?_
 refine zfK ?_ ?_ ?_ ?_ ?_
 exact zd3
 exact zfA
 exact T.n_isinstance
 exact T.n_bool
 exact zac 0
theorem zpH:(["one"]:List Str).Nodup:=by decide +kernel
theorem sc_32:zau ["stock","thing"] ["stock","thing"] (zae s_32):=⟨rfl,rfl,rfl,by decide +kernel,rfl,by decide +kernel,by decide +kernel⟩
theorem ok_32 (T:Tx K mg t):zbw P w K mg base CX0 2 t.a_32 t.d_32 ["stock","thing"] (zb6 K 2 F_32):=by
 have G_23:=ok_23 (P:=P) (w:=w) (base:=base) T
 refine zby (k:=1) (G:=G_32) (N:=["stock","thing"]) (ps:=["stock","thing"]) (st:=s_32) T.F_32 sc_32 fun cdv A outer s H E hr=> ?_
 refine zaj ?_ ?_
 refine zhr ?_ ?_ ?_
 refine zew ?_
 refine zjN ?_ ?_
 refine zcN ?_
 refine zcQ ?_
 refine zfK ?_ ?_ ?_ ?_ ?_
 exact zev
 exact zaT
 exact T.n_isinstance
 exact T.n_tuple
 exact zac 1
 refine zf4 ?_
 refine zcN ?_
 refine zcQ ?_
 refine zaL (id:="all") ?_ ?_ ?_ ?_
 exact (zcv rfl)
 exact zgi
 exact T.n_all
 refine zaa ?_ ?_
 refine zbC (N:=["one"]) ?_ ?_ ?_ ?_ ?_ ?_ ?_
 exact rfl
 exact (BOk.of (Xn:=(zae s_32).names) (XN:=["stock","thing"]) rfl rfl rfl (by decide +kernel))
 exact (zaF.name (i:=0) rfl)
 refine zeE ?_
 exact zac 1
 intro _ _ _
 exact zav 0 zpH
 intro _ _ _
 exact zbG
 intro _ _ _
 refine zao (k:=1) (g:=t.a_23) (fd:=t.d_23) (ps:=["thing"]) ?_ ?_ ?_ ?_ ?_ ?_
 exact G_23
 exact (hr.mono (by decide))
 exact T.m_23
 exact T.F_23.kp
 exact T.b_23
 refine zaa ?_ ?_
 exact zac 0
 exact zad
 exact zad
 refine zar ?_
 refine zaX ?_
 exact zkC
 exact zbM
 refine zar ?_
 refine zaX ?_
 refine zhd ?_ ?_ ?_
 exact (zcM (zgk hr))
 refine zaL (id:="sorted") ?_ ?_ ?_ ?_
 exact (zbQ rfl)
 exact zdb
 exact T.n_sorted
 refine zaa ?_ ?_
 exact zac 1
 exact zad
 refine zgt ?_ ?_ ?_ ?_
 exact rfl
 exact T.n_list
 exact T.n_range
 refine zb4 ?_ ?_
 exact zac 0
 exact zai
theorem zo8:(["place","thing","offer"]:List Str).Nodup:=by decide +kernel
theorem sc_13:zau ["offer","things"] ["offer","things"] (zae s_13):=⟨rfl,rfl,rfl,by decide +kernel,rfl,by decide +kernel,by decide +kernel⟩
theorem ok_13 (T:Tx K mg t):zbw P w K mg base CX0 1 t.a_13 t.d_13 ["offer","things"] (zb6 K 2 F_13):=by
 refine zby (k:=0) (G:=G_13) (N:=["offer","things"]) (ps:=["offer","things"]) (st:=s_13) T.F_13 sc_13 fun cdv A outer s H E hr=> ?_
 refine zar ?_
 refine zaX ?_
 refine zaO (T:="tuple") ?_ ?_ ?_ ?_
 exact zaC
 exact zaT
 exact T.n_tuple
 refine zaa ?_ ?_
 refine zbC (N:=["place","thing","offer"]) ?_ ?_ ?_ ?_ ?_ ?_ ?_
 exact rfl
 exact (BOk.of (Xn:=(zae s_13).names) (XN:=["offer","things"]) rfl rfl rfl (by decide +kernel))
 exact (zaF.tup (zaW.cons (i:=0) rfl (zaW.cons (i:=1) rfl zaW.nil)))
 refine zme ?_ ?_
 exact T.n_enumerate
 exact zac 1
 intro _ _ _
 refine ze5 ?_ ?_
 exact rfl
 refine za4 ?_ ?_
 exact zav 0 zo8
 refine za4 ?_ ?_
 exact zav 1 zo8
 exact zdE
 intro _ _ _
 refine zh4 ?_
 refine zb2 ?_ ?_ ?_
 exact (zl4 (zgk hr))
 exact zac 1
 refine zb4 ?_ ?_
 exact zac 2
 exact zai
 intro _ _ _
 exact zac 0
 exact zad
theorem zrS:(["offer","order"]:List Str).Nodup:=by decide +kernel
theorem sc_19:zau ["stock","order"] ["stock","order"] (zae s_19):=⟨rfl,rfl,rfl,by decide +kernel,rfl,by decide +kernel,by decide +kernel⟩
theorem ok_19 (T:Tx K mg t):zbw P w K mg base CX0 2 t.a_19 t.d_19 ["stock","order"] (zb6 K 2 F_19):=by
 have G_13:=ok_13 (P:=P) (w:=w) (base:=base) T
 refine zby (k:=1) (G:=G_19) (N:=["stock","order"]) (ps:=["stock","order"]) (st:=s_19) T.F_19 sc_19 fun cdv A outer s H E hr=> ?_
 refine zar ?_
 refine zaX ?_
 refine zbu ?_
 refine zaa ?_ ?_
 refine zb4 ?_ ?_
 exact zac 0
 exact zai
 refine zaa ?_ ?_
 refine zaO (T:="tuple") ?_ ?_ ?_ ?_
 exact zaC
 exact zaT
 exact T.n_tuple
 refine zaa ?_ ?_
 refine zbC (N:=["offer","order"]) ?_ ?_ ?_ ?_ ?_ ?_ ?_
 exact rfl
 exact (BOk.of (Xn:=(zae s_19).names) (XN:=["stock","order"]) rfl rfl rfl (by decide +kernel))
 exact (zaF.name (i:=0) rfl)
 refine zeE ?_
 refine zb4 ?_ ?_
 exact zac 0
 exact zai
 intro _ _ _
 exact zav 0 zrS
 intro _ _ _
 exact zbG
 intro _ _ _
 refine zbu ?_
 refine zaa ?_ ?_
 refine zao (k:=1) (g:=t.a_13) (fd:=t.d_13) (ps:=["offer","things"]) ?_ ?_ ?_ ?_ ?_ ?_
 exact G_13
 exact (hr.mono (by decide))
 exact T.m_13
 exact T.F_13.kp
 exact T.b_13
 refine zaa ?_ ?_
 exact zac 0
 refine zaa ?_ ?_
 exact zac 1
 exact zad
 refine zaa ?_ ?_
 refine zb4 ?_ ?_
 exact zac 0
 exact zai
 exact zad
 exact zad
 exact zad
theorem sc_12:zau ["thing"] ["thing"] (zae s_12):=⟨rfl,rfl,rfl,by decide +kernel,rfl,by decide +kernel,by decide +kernel⟩
theorem ok_12 (T:Tx K mg t):zbw P w K mg base CX0 1 t.a_12 t.d_12 ["thing"] (zb6 K 1 F_12):=by
 refine zby (k:=0) (G:=G_12) (N:=["thing"]) (ps:=["thing"]) (st:=s_12) T.F_12 sc_12 fun cdv A outer s H E hr=> ?_
 refine zar ?_
 refine zaX ?_
 refine zjM ?_ ?_
 refine zfK ?_ ?_ ?_ ?_ ?_
 exact zke
 exact zjk
 exact T.n_isinstance
 exact T.n_int
 exact zac 0
 refine zj8 ?_
 refine zpu ?_
 refine zfK ?_ ?_ ?_ ?_ ?_
 exact zd3
 exact zfA
 exact T.n_isinstance
 exact T.n_bool
 exact zac 0
theorem zrJ:(["number"]:List Str).Nodup:=by decide +kernel
theorem sc_18:zau ["stock","thing"] ["stock","thing"] (zae s_18):=⟨rfl,rfl,rfl,by decide +kernel,rfl,by decide +kernel,by decide +kernel⟩
theorem ok_18 (T:Tx K mg t):zbw P w K mg base CX0 2 t.a_18 t.d_18 ["stock","thing"] (zb6 K 2 F_18):=by
 have G_12:=ok_12 (P:=P) (w:=w) (base:=base) T
 refine zby (k:=1) (G:=G_18) (N:=["stock","thing"]) (ps:=["stock","thing"]) (st:=s_18) T.F_18 sc_18 fun cdv A outer s H E hr=> ?_
 refine zaj ?_ ?_
 refine zhr ?_ ?_ ?_
 refine zew ?_
 refine zjN ?_ ?_
 refine zcN ?_
 refine zcQ ?_
 refine zfK ?_ ?_ ?_ ?_ ?_
 exact zev
 exact zaT
 exact T.n_isinstance
 exact T.n_tuple
 exact zac 1
 refine zf4 ?_
 refine zcN ?_
 refine zcQ ?_
 refine zaL (id:="all") ?_ ?_ ?_ ?_
 exact (zcv rfl)
 exact zgi
 exact T.n_all
 refine zaa ?_ ?_
 refine zbC (N:=["number"]) ?_ ?_ ?_ ?_ ?_ ?_ ?_
 exact rfl
 exact (BOk.of (Xn:=(zae s_18).names) (XN:=["stock","thing"]) rfl rfl rfl (by decide +kernel))
 exact (zaF.name (i:=0) rfl)
 refine zeE ?_
 exact zac 1
 intro _ _ _
 exact zav 0 zrJ
 intro _ _ _
 exact zbG
 intro _ _ _
 refine zao (k:=1) (g:=t.a_12) (fd:=t.d_12) (ps:=["thing"]) ?_ ?_ ?_ ?_ ?_ ?_
 exact G_12
 exact (hr.mono (by decide))
 exact T.m_12
 exact T.F_12.kp
 exact T.b_12
 refine zaa ?_ ?_
 exact zac 0
 exact zad
 exact zad
 refine zar ?_
 refine zaX ?_
 exact zkC
 exact zbM
 refine zar ?_
 refine zaX ?_
 refine zhd ?_ ?_ ?_
 exact (zcM (zgk hr))
 refine zaL (id:="sorted") ?_ ?_ ?_ ?_
 exact (zbQ rfl)
 exact zdb
 exact T.n_sorted
 refine zaa ?_ ?_
 exact zac 1
 exact zad
 refine zgt ?_ ?_ ?_ ?_
 exact rfl
 exact T.n_list
 exact T.n_range
 refine zb4 ?_ ?_
 exact zac 0
 exact zai
theorem sc_15:zau ["stock","thing"] ["stock","thing"] (zae s_15):=⟨rfl,rfl,rfl,by decide +kernel,rfl,by decide +kernel,by decide +kernel⟩
theorem ok_15 (T:Tx K mg t):zbw P w K mg base CX0 3 t.a_15 t.d_15 ["stock","thing"] (zb6 K 2 F_15):=by
 have G_14:=ok_14 (P:=P) (w:=w) (base:=base) T
 have G_19:=ok_19 (P:=P) (w:=w) (base:=base) T
 have G_18:=ok_18 (P:=P) (w:=w) (base:=base) T
 refine zby (k:=2) (G:=G_15) (N:=["stock","thing"]) (ps:=["stock","thing"]) (st:=s_15) T.F_15 sc_15 fun cdv A outer s H E hr=> ?_
 refine zar ?_
 refine zaX ?_
 refine zjM ?_ ?_
 refine zao (k:=2) (g:=t.a_18) (fd:=t.d_18) (ps:=["stock","thing"]) ?_ ?_ ?_ ?_ ?_ ?_
 exact G_18
 exact (hr.mono (by decide))
 exact T.m_18
 exact T.F_18.kp
 exact T.b_18
 refine zaa ?_ ?_
 exact zac 0
 refine zaa ?_ ?_
 exact zac 1
 exact zad
 refine zj8 ?_
 refine zao (k:=2) (g:=t.a_14) (fd:=t.d_14) (ps:=["stock"]) ?_ ?_ ?_ ?_ ?_ ?_
 exact G_14
 exact (hr.mono (by decide))
 exact T.m_14
 exact T.F_14.kp
 exact T.b_14
 refine zaa ?_ ?_
 refine zao (k:=2) (g:=t.a_19) (fd:=t.d_19) (ps:=["stock","order"]) ?_ ?_ ?_ ?_ ?_ ?_
 exact G_19
 exact (hr.mono (by decide))
 exact T.m_19
 exact T.F_19.kp
 exact T.b_19
 refine zaa ?_ ?_
 exact zac 0
 refine zaa ?_ ?_
 exact zac 1
 exact zad
 exact zad
theorem nd_25:(["e","kinds","words"]:List Str).Nodup:=by decide +kernel
theorem zrU:(["kind"]:List Str).Nodup:=by decide +kernel
theorem sc_25:zau ["e","kinds","words"] ["e"] (zae s_25):=⟨rfl,rfl,rfl,by decide +kernel,rfl,by decide +kernel,by decide +kernel⟩
theorem ok_25 (T:Tx K mg t):FnH P w K mg base  1 t.a_25 t.d_25 ["e"] (zb6 K 1 F_25):=by
 refine zpL (k:=0) (G:=G_25) (N:=["e","kinds","words"]) (ps:=["e"]) (st:=s_25) T.F_25 sc_25 fun cdv A outer s H hr=> ?_
 refine zaj ?_ ?_
 refine zaS 1 ?_ ?_
 exact nd_25
 refine zcc ?_
 refine zaa ?_ ?_
 refine zeF (CE:=t.a_0) (CC:=t.a_1) ?_ ?_ ?_ ?_ ?_ ?_
 exact T.x_exc
 exact (by decide +kernel)
 exact T.k_1
 exact T.n_isinstance
 exact T.g_1
 exact zac 0
 refine zaa ?_ ?_
 refine zeF (CE:=t.a_0) (CC:=t.a_2) ?_ ?_ ?_ ?_ ?_ ?_
 exact T.x_exc
 exact (by decide +kernel)
 exact T.k_2
 exact T.n_isinstance
 exact T.g_2
 exact zac 0
 refine zaa ?_ ?_
 refine zeF (CE:=t.a_0) (CC:=t.a_3) ?_ ?_ ?_ ?_ ?_ ?_
 exact T.x_exc
 exact (by decide +kernel)
 exact T.k_3
 exact T.n_isinstance
 exact T.g_3
 exact zac 0
 refine zaa ?_ ?_
 refine zeF (CE:=t.a_0) (CC:=t.a_4) ?_ ?_ ?_ ?_ ?_ ?_
 exact T.x_exc
 exact (by decide +kernel)
 exact T.k_4
 exact T.n_isinstance
 exact T.g_4
 exact zac 0
 exact zad
 refine zaj ?_ ?_
 refine zaS 1 ?_ ?_
 exact nd_25
 refine za7 ?_ ?_ ?_
 exact zap
 exact zac 1
 refine zcc ?_
 refine zaa ?_ ?_
 refine zeF (CE:=t.a_0) (CC:=t.a_5) ?_ ?_ ?_ ?_ ?_ ?_
 exact T.x_exc
 exact (by decide +kernel)
 exact T.k_5
 exact T.n_isinstance
 exact T.g_5
 exact zac 0
 refine zaa ?_ ?_
 refine zeF (CE:=t.a_0) (CC:=t.a_6) ?_ ?_ ?_ ?_ ?_ ?_
 exact T.x_exc
 exact (by decide +kernel)
 exact T.k_6
 exact T.n_isinstance
 exact T.g_6
 exact zac 0
 refine zaa ?_ ?_
 refine zeF (CE:=t.a_0) (CC:=t.a_7) ?_ ?_ ?_ ?_ ?_ ?_
 exact T.x_exc
 exact (by decide +kernel)
 exact T.k_7
 exact T.n_isinstance
 exact T.g_7
 exact zac 0
 refine zaa ?_ ?_
 refine zeF (CE:=t.a_0) (CC:=t.a_8) ?_ ?_ ?_ ?_ ?_ ?_
 exact T.x_exc
 exact (by decide +kernel)
 exact T.k_8
 exact T.n_isinstance
 exact T.g_8
 exact zac 0
 exact zad
 refine zaj ?_ ?_
 refine zaS 1 ?_ ?_
 exact nd_25
 refine za7 ?_ ?_ ?_
 exact zap
 exact zac 1
 refine zcc ?_
 refine zaa ?_ ?_
 refine zeF (CE:=t.a_0) (CC:=t.a_9) ?_ ?_ ?_ ?_ ?_ ?_
 exact T.x_exc
 exact (by decide +kernel)
 exact T.k_9
 exact T.n_isinstance
 exact T.g_9
 exact zac 0
 refine zaa ?_ ?_
 refine zeF (CE:=t.a_0) (CC:=t.a_10) ?_ ?_ ?_ ?_ ?_ ?_
 exact T.x_exc
 exact (by decide +kernel)
 exact T.k_10
 exact T.n_isinstance
 exact T.g_10
 exact zac 0
 refine zaa ?_ ?_
 refine zeF (CE:=t.a_0) (CC:=t.a_11) ?_ ?_ ?_ ?_ ?_ ?_
 exact T.x_exc
 exact (by decide +kernel)
 exact T.k_11
 exact T.n_isinstance
 exact T.g_11
 exact zac 0
 exact zad
 refine zaj ?_ ?_
 refine zhr ?_ ?_ ?_
 refine zew ?_
 refine zjN ?_ ?_
 refine zcN ?_
 refine zcQ ?_
 refine zqh (CE:=t.a_0) ?_ ?_ ?_ ?_
 exact T.x_exc
 exact T.n_isinstance
 exact T.n_ValueError
 exact zac 0
 refine zf4 ?_
 refine zb2 ?_ ?_ ?_
 exact (zh8 (zrH hr))
 refine zaL (id:="sum") ?_ ?_ ?_ ?_
 exact ziz
 exact zpz
 exact T.n_sum
 refine zaa ?_ ?_
 refine znn (N:=["kind"]) ?_ ?_ ?_ ?_ ?_ ?_
 exact (BOk.of (Xn:=(zae s_25).names) (XN:=["e","kinds","words"]) rfl rfl rfl (by decide +kernel))
 exact (zaF.name (i:=0) rfl)
 refine zeE ?_
 exact zac 1
 intro _ _ _
 exact zav 0 zrU
 intro _ _ _
 exact zbG
 intro _ _ _
 refine zaO (T:="int") ?_ ?_ ?_ ?_
 exact ziH
 exact zjk
 exact T.n_int
 refine zaa ?_ ?_
 exact zac 0
 exact zad
 exact zad
 exact zai
 refine zar ?_
 refine zaX ?_
 exact zcA
 exact zbM
 refine zaj ?_ ?_
 refine zaS 2 ?_ ?_
 exact nd_25
 refine zcc ?_
 refine zaa ?_ ?_
 exact zcA
 refine zaa ?_ ?_
 exact zcA
 refine zaa ?_ ?_
 exact zcA
 refine zaa ?_ ?_
 exact zcA
 refine zaa ?_ ?_
 exact zcA
 refine zaa ?_ ?_
 exact zcA
 refine zaa ?_ ?_
 exact zcA
 refine zaa ?_ ?_
 exact zcA
 refine zaa ?_ ?_
 exact zcA
 refine zaa ?_ ?_
 exact zcA
 refine zaa ?_ ?_
 exact zcA
 exact zad
 refine zar ?_
 refine zaX ?_
 refine za7 ?_ ?_ ?_
 exact zap
 exact zcA
 refine zb4 ?_ ?_
 exact zac 2
 refine zm6 ?_
 exact zac 1
theorem sc_16:zau ["stock","order"] ["stock","order"] (zae s_16):=⟨rfl,rfl,rfl,by decide +kernel,rfl,by decide +kernel,by decide +kernel⟩
theorem ok_16 (T:Tx K mg t):zbw P w K mg base (CXE P w) 3 t.a_16 t.d_16 ["stock","order"] (spE K 2 F_16):=by
 have G_18:=ok_18 (P:=P) (w:=w) (base:=base) T
 have G_19:=ok_19 (P:=P) (w:=w) (base:=base) T
 refine zqc (k:=2) (G:=G_16) (N:=["stock","order"]) (ps:=["stock","order"]) (st:=s_16) T.F_16 sc_16 fun cdv A outer s H E hr=> ?_
 refine zaj ?_ ?_
 refine zhr ?_ ?_ ?_
 refine zcN ?_
 refine zcQ ?_
 refine zkK (k:=2) (g:=t.a_18) (fd:=t.d_18) (ps:=["stock","thing"]) ?_ ?_ ?_ ?_ ?_ ?_
 exact G_18
 exact (hr.mono (by decide))
 exact T.m_18
 exact T.F_18.kp
 exact T.b_18
 refine zaa ?_ ?_
 exact zac 0
 refine zaa ?_ ?_
 exact zac 1
 exact zad
 refine zar ?_
 exact zmQ (c:="NoThing") rfl zlH T.x_exc (by decide +kernel) T.k_3
 exact zbM
 refine zar ?_
 refine zaX ?_
 refine zkK (k:=2) (g:=t.a_19) (fd:=t.d_19) (ps:=["stock","order"]) ?_ ?_ ?_ ?_ ?_ ?_
 exact G_19
 exact (hr.mono (by decide))
 exact T.m_19
 exact T.F_19.kp
 exact T.b_19
 refine zaa ?_ ?_
 exact zac 0
 refine zaa ?_ ?_
 exact zac 1
 exact zad
theorem nd_31:(["stock","thing","e"]:List Str).Nodup:=by decide +kernel
theorem sc_31:zau ["stock","thing","e"] ["stock","thing"] (zae s_31):=⟨rfl,rfl,rfl,by decide +kernel,rfl,by decide +kernel,by decide +kernel⟩
theorem ok_31 (T:Tx K mg t):zbw P w K mg base CX0 4 t.a_31 t.d_31 ["stock","thing"] (zb6 K 2 F_31):=by
 have G_25:=ok_25 (P:=P) (w:=w) (base:=base) T
 have G_16:=ok_16 (P:=P) (w:=w) (base:=base) T
 refine zby (k:=3) (G:=G_31) (N:=["stock","thing","e"]) (ps:=["stock","thing"]) (st:=s_31) T.F_31 sc_31 fun cdv A outer s H E hr=> ?_
 refine zar ?_
 refine zo0 (CE:=t.a_0) (pe:="e") (k:=1) (fdk:=t.d_25) (fk:=t.a_25) 2 ?_ ?_ ?_ ?_ ?_ ?_ ?_ ?_ ?_ ?_
 exact zpE
 exact nd_31
 exact T.g_0
 exact T.x_exc
 exact G_25
 exact T.b_25
 exact T.m_25
 exact T.F_25.kp
 exact (zcz.of (hr.mono (by decide)))
 intro pn xe E' hx
 refine zar ?_
 refine zaX ?_
 refine zod (k:=3) (g:=t.a_16) (fd:=t.d_16) (ps:=["stock","order"]) ?_ ?_ ?_ ?_ ?_ ?_ ?_
 exact G_16
 exact hx
 exact (hr.mono (by decide))
 exact T.m_16
 exact T.F_16.kp
 exact T.b_16
 refine zaa ?_ ?_
 exact zac 0
 refine zaa ?_ ?_
 exact zac 1
 exact zad
theorem nd_35:(["stock","thing","good","found","told"]:List Str).Nodup:=by decide +kernel
theorem sc_35:zau ["stock","thing","good","found","told"] ["stock","thing"] (zae s_35):=⟨rfl,rfl,rfl,by decide +kernel,rfl,by decide +kernel,by decide +kernel⟩
theorem ok_35 (T:Tx K mg t):zbw P w K mg base CX0 5 t.a_35 t.d_35 ["stock","thing"] (zb6 K 2 F_35):=by
 have G_32:=ok_32 (P:=P) (w:=w) (base:=base) T
 have G_15:=ok_15 (P:=P) (w:=w) (base:=base) T
 have G_31:=ok_31 (P:=P) (w:=w) (base:=base) T
 have G_33:=ok_33 (P:=P) (w:=w) (base:=base) T
 have G_34:=ok_34 (P:=P) (w:=w) (base:=base) T
 refine zby (k:=4) (G:=G_35) (N:=["stock","thing","good","found","told"]) (ps:=["stock","thing"]) (st:=s_35) T.F_35 sc_35 fun cdv A outer s H E hr=> ?_
 refine zaj ?_ ?_
 refine zaS 2 ?_ ?_
 exact nd_35
 refine zao (k:=2) (g:=t.a_32) (fd:=t.d_32) (ps:=["stock","thing"]) ?_ ?_ ?_ ?_ ?_ ?_
 exact G_32
 exact (hr.mono (by decide))
 exact T.m_32
 exact T.F_32.kp
 exact T.b_32
 refine zaa ?_ ?_
 exact zac 0
 refine zaa ?_ ?_
 exact zac 1
 exact zad
 refine zaj ?_ ?_
 refine zaS 3 ?_ ?_
 exact nd_35
 refine zao (k:=3) (g:=t.a_15) (fd:=t.d_15) (ps:=["stock","thing"]) ?_ ?_ ?_ ?_ ?_ ?_
 exact G_15
 exact (hr.mono (by decide))
 exact T.m_15
 exact T.F_15.kp
 exact T.b_15
 refine zaa ?_ ?_
 exact zac 0
 refine zaa ?_ ?_
 exact zac 1
 exact zad
 refine zaj ?_ ?_
 refine zaS 4 ?_ ?_
 exact nd_35
 refine zao (k:=4) (g:=t.a_31) (fd:=t.d_31) (ps:=["stock","thing"]) ?_ ?_ ?_ ?_ ?_ ?_
 exact G_31
 exact (hr.mono (by decide))
 exact T.m_31
 exact T.F_31.kp
 exact T.b_31
 refine zaa ?_ ?_
 exact zac 0
 refine zaa ?_ ?_
 exact zac 1
 exact zad
 refine zaj ?_ ?_
 refine zhr ?_ ?_ ?_
 refine zcN ?_
 refine zcQ ?_
 exact zac 2
 refine zar ?_
 refine zaX ?_
 refine zjM ?_ ?_
 refine zhd ?_ ?_ ?_
 exact zo9
 exact zac 3
 exact zkC
 refine zj8 ?_
 refine zhd ?_ ?_ ?_
 exact (zcM (zgk hr))
 exact zac 4
 exact zcA
 exact zbM
 refine zaj ?_ ?_
 refine zhr ?_ ?_ ?_
 refine zew ?_
 refine zjN ?_ ?_
 refine zcN ?_
 refine zcQ ?_
 refine zfK ?_ ?_ ?_ ?_ ?_
 exact zev
 exact zaT
 exact T.n_isinstance
 exact T.n_tuple
 exact zac 4
 refine zf4 ?_
 refine zb2 ?_ ?_ ?_
 exact (zh8 (zgk hr))
 exact zac 4
 refine zao (k:=1) (g:=t.a_33) (fd:=t.d_33) (ps:=["stock","order"]) ?_ ?_ ?_ ?_ ?_ ?_
 exact G_33
 exact (hr.mono (by decide))
 exact T.m_33
 exact T.F_33.kp
 exact T.b_33
 refine zaa ?_ ?_
 exact zac 0
 refine zaa ?_ ?_
 exact zac 1
 exact zad
 refine zar ?_
 refine zaX ?_
 exact zkC
 exact zbM
 refine zar ?_
 refine zaX ?_
 refine zjM ?_ ?_
 refine zfK ?_ ?_ ?_ ?_ ?_
 exact zd3
 exact zfA
 exact T.n_isinstance
 exact T.n_bool
 exact zac 3
 refine zj8 ?_
 refine zhd ?_ ?_ ?_
 exact (zcM (zgk hr))
 exact zac 3
 refine zao (k:=1) (g:=t.a_34) (fd:=t.d_34) (ps:=["stock"]) ?_ ?_ ?_ ?_ ?_ ?_
 exact G_34
 exact (hr.mono (by decide))
 exact T.m_34
 exact T.F_34.kp
 exact T.b_34
 refine zaa ?_ ?_
 refine zao (k:=1) (g:=t.a_33) (fd:=t.d_33) (ps:=["stock","order"]) ?_ ?_ ?_ ?_ ?_ ?_
 exact G_33
 exact (hr.mono (by decide))
 exact T.m_33
 exact T.F_33.kp
 exact T.b_33
 refine zaa ?_ ?_
 exact zac 0
 refine zaa ?_ ?_
 exact zac 1
 exact zad
 exact zad
theorem nd_36:(["script","k","box","row","back","stock","found","order","things"]:List Str).Nodup:=by decide +kernel
theorem zpx:(["thing","back"]:List Str).Nodup:=by decide +kernel
theorem zp8:(["thing","stock"]:List Str).Nodup:=by decide +kernel
theorem sc_36:zau ["script","k","box","row","back","stock","found","order","things"] ["script"] (zae s_36):=⟨rfl,rfl,rfl,by decide +kernel,rfl,by decide +kernel,by decide +kernel⟩
theorem ok_36 (T:Tx K mg t):zbw P w K mg base CX0 6 t.a_36 t.d_36 ["script"] (zb6 K 1 F_36):=by
 have G_21:=ok_21 (P:=P) (w:=w) (base:=base) T
 have G_29:=ok_29 (P:=P) (w:=w) (base:=base) T
 have G_30:=ok_30 (P:=P) (w:=w) (base:=base) T
 have G_33:=ok_33 (P:=P) (w:=w) (base:=base) T
 have G_27:=ok_27 (P:=P) (w:=w) (base:=base) T
 have G_14:=ok_14 (P:=P) (w:=w) (base:=base) T
 have G_34:=ok_34 (P:=P) (w:=w) (base:=base) T
 have G_28:=ok_28 (P:=P) (w:=w) (base:=base) T
 have G_35:=ok_35 (P:=P) (w:=w) (base:=base) T
 refine zby (k:=5) (G:=G_36) (N:=["script","k","box","row","back","stock","found","order","things"]) (ps:=["script"]) (st:=s_36) T.F_36 sc_36 fun cdv A outer s H E hr=> ?_
 refine zaj ?_ ?_
 refine zjV ?_ ?_ ?_ ?_ ?_
 exact rfl
 exact PassesOwn.never
 refine zeO ?_ ?_
 exact T.n_range
 refine zaa ?_ ?_
 refine zaL (id:="max") ?_ ?_ ?_ ?_
 exact (zeW rfl)
 exact zl7
 exact T.n_max
 refine zaa ?_ ?_
 exact zai
 refine zaa ?_ ?_
 refine zaL (id:="min") ?_ ?_ ?_ ?_
 exact (ze1 rfl)
 exact zmm
 exact T.n_min
 refine zaa ?_ ?_
 refine zaL (id:="len") ?_ ?_ ?_ ?_
 exact zbA
 exact zec
 exact T.n_len
 refine zaa ?_ ?_
 exact zac 0
 exact zad
 refine zaa ?_ ?_
 exact zai
 exact zad
 exact zad
 exact zad
 exact zav 1 nd_36
 refine zaj ?_ ?_
 refine zaS 2 ?_ ?_
 exact nd_36
 refine zao (k:=2) (g:=t.a_21) (fd:=t.d_21) (ps:=["script","k"]) ?_ ?_ ?_ ?_ ?_ ?_
 exact G_21
 exact (hr.mono (by decide))
 exact T.m_21
 exact T.F_21.kp
 exact T.b_21
 refine zaa ?_ ?_
 exact zac 0
 refine zaa ?_ ?_
 exact zac 1
 exact zad
 refine zaj ?_ ?_
 refine zaS 3 ?_ ?_
 exact nd_36
 refine zao (k:=2) (g:=t.a_29) (fd:=t.d_29) (ps:=["box","most","lots"]) ?_ ?_ ?_ ?_ ?_ ?_
 exact G_29
 exact (hr.mono (by decide))
 exact T.m_29
 exact T.F_29.kp
 exact T.b_29
 refine zaa ?_ ?_
 exact zac 2
 refine zaa ?_ ?_
 exact zai
 refine zaa ?_ ?_
 exact zai
 exact zad
 refine zaj ?_ ?_
 refine zaS 4 ?_ ?_
 exact nd_36
 refine zao (k:=2) (g:=t.a_30) (fd:=t.d_30) (ps:=["box","many"]) ?_ ?_ ?_ ?_ ?_ ?_
 exact G_30
 exact (hr.mono (by decide))
 exact T.m_30
 exact T.F_30.kp
 exact T.b_30
 refine zaa ?_ ?_
 exact zac 2
 refine zaa ?_ ?_
 refine zb4 ?_ ?_
 exact zac 3
 exact zai
 exact zad
 refine zar ?_
 refine zjV ?_ ?_ ?_ ?_ ?_
 exact rfl
 exact PassesOwn.never
 refine zeE ?_
 refine zcc ?_
 refine zaa ?_ ?_
 exact zac 3
 refine zaa ?_ ?_
 refine zao (k:=1) (g:=t.a_33) (fd:=t.d_33) (ps:=["stock","order"]) ?_ ?_ ?_ ?_ ?_ ?_
 exact G_33
 exact (hr.mono (by decide))
 exact T.m_33
 exact T.F_33.kp
 exact T.b_33
 refine zaa ?_ ?_
 exact zac 3
 refine zaa ?_ ?_
 exact zac 4
 exact zad
 refine zaa ?_ ?_
 refine zao (k:=3) (g:=t.a_27) (fd:=t.d_27) (ps:=["box","most","lots"]) ?_ ?_ ?_ ?_ ?_ ?_
 exact G_27
 exact (hr.mono (by decide))
 exact T.m_27
 exact T.F_27.kp
 exact T.b_27
 refine zaa ?_ ?_
 exact zac 2
 refine zaa ?_ ?_
 exact zai
 refine zaa ?_ ?_
 exact zai
 exact zad
 exact zad
 exact zav 5 nd_36
 refine zaj ?_ ?_
 refine zaS 6 ?_ ?_
 exact nd_36
 refine zao (k:=2) (g:=t.a_14) (fd:=t.d_14) (ps:=["stock"]) ?_ ?_ ?_ ?_ ?_ ?_
 exact G_14
 exact (hr.mono (by decide))
 exact T.m_14
 exact T.F_14.kp
 exact T.b_14
 refine zaa ?_ ?_
 exact zac 5
 exact zad
 refine zaj ?_ ?_
 refine zhr ?_ ?_ ?_
 refine zew ?_
 refine zjN ?_ ?_
 refine zcN ?_
 refine zcQ ?_
 refine zfK ?_ ?_ ?_ ?_ ?_
 exact zd3
 exact zfA
 exact T.n_isinstance
 exact T.n_bool
 exact zac 6
 refine zf4 ?_
 refine zb2 ?_ ?_ ?_
 exact (zh8 (zgk hr))
 exact zac 6
 refine zao (k:=1) (g:=t.a_34) (fd:=t.d_34) (ps:=["stock"]) ?_ ?_ ?_ ?_ ?_ ?_
 exact G_34
 exact (hr.mono (by decide))
 exact T.m_34
 exact T.F_34.kp
 exact T.b_34
 refine zaa ?_ ?_
 exact zac 5
 exact zad
 refine zar ?_
 refine zaX ?_
 exact zkC
 exact zbM
 refine zaj ?_ ?_
 refine zaS 7 ?_ ?_
 exact nd_36
 refine zao (k:=2) (g:=t.a_30) (fd:=t.d_30) (ps:=["box","many"]) ?_ ?_ ?_ ?_ ?_ ?_
 exact G_30
 exact (hr.mono (by decide))
 exact T.m_30
 exact T.F_30.kp
 exact T.b_30
 refine zaa ?_ ?_
 exact zac 2
 refine zaa ?_ ?_
 refine zb4 ?_ ?_
 exact zac 5
 exact zai
 exact zad
 refine zaj ?_ ?_
 refine zaS 8 ?_ ?_
 exact nd_36
 refine zgG ?_
 refine zaa ?_ ?_
 exact zac 7
 refine zaa ?_ ?_
 refine zhC ?_ ?_ ?_ ?_
 exact rfl
 exact T.n_tuple
 exact T.n_range
 refine zb4 ?_ ?_
 exact zac 5
 exact zai
 refine zaa ?_ ?_
 refine zao (k:=3) (g:=t.a_28) (fd:=t.d_28) (ps:=["box","lot","many"]) ?_ ?_ ?_ ?_ ?_ ?_
 exact G_28
 exact (hr.mono (by decide))
 exact T.m_28
 exact T.F_28.kp
 exact T.b_28
 refine zaa ?_ ?_
 exact zac 2
 refine zaa ?_ ?_
 exact zac 7
 refine zaa ?_ ?_
 refine zb4 ?_ ?_
 exact zac 5
 exact zai
 exact zad
 refine zaa ?_ ?_
 refine zao (k:=3) (g:=t.a_28) (fd:=t.d_28) (ps:=["box","lot","many"]) ?_ ?_ ?_ ?_ ?_ ?_
 exact G_28
 exact (hr.mono (by decide))
 exact T.m_28
 exact T.F_28.kp
 exact T.b_28
 refine zaa ?_ ?_
 exact zac 2
 refine zaa ?_ ?_
 exact zac 7
 refine zaa ?_ ?_
 refine zb4 ?_ ?_
 exact zac 5
 exact zai
 exact zad
 exact zad
 refine zaj ?_ ?_
 refine zhr ?_ ?_ ?_
 refine zb2 ?_ ?_ ?_
 exact (zcM (zgk hr))
 refine zb4 ?_ ?_
 exact zac 5
 exact zai
 refine zb4 ?_ ?_
 exact zac 3
 exact zai
 refine zar ?_
 refine zhH ?_
 refine zfL ?_ ?_
 exact zac 8
 refine zaO (T:="tuple") ?_ ?_ ?_ ?_
 exact zaC
 exact zaT
 exact T.n_tuple
 refine zaa ?_ ?_
 refine zbC (N:=["thing","back"]) ?_ ?_ ?_ ?_ ?_ ?_ ?_
 exact rfl
 exact (BOk.of (Xn:=(zae s_36).names) (XN:=["script","k","box","row","back","stock","found","order","things"]) rfl rfl rfl (by decide +kernel))
 exact (zaF.name (i:=0) rfl)
 refine zeO ?_ ?_
 exact T.n_range
 refine zaa ?_ ?_
 refine zb4 ?_ ?_
 exact zac 3
 exact zai
 exact zad
 intro _ _ _
 exact zav 0 zpx
 intro _ _ _
 exact zbG
 intro _ _ _
 refine zlJ ?_ ?_
 exact zac 1
 exact zac 0
 exact zad
 exact zbM
 refine zar ?_
 refine zhr ?_ ?_ ?_
 refine zcN ?_
 refine zcQ ?_
 refine zaL (id:="all") ?_ ?_ ?_ ?_
 exact (zcv rfl)
 exact zgi
 exact T.n_all
 refine zaa ?_ ?_
 refine zno (N:=["thing","stock"]) ?_ ?_ ?_ ?_ ?_ ?_
 exact (BOk.of (Xn:=(zae s_36).names) (XN:=["script","k","box","row","back","stock","found","order","things"]) rfl rfl rfl (by decide +kernel))
 exact (zaF.name (i:=0) rfl)
 exact zac 8
 intro _ _ _
 exact zav 0 zp8
 intro _ _ _
 exact zbG
 intro _ _ _
 refine zao (k:=5) (g:=t.a_35) (fd:=t.d_35) (ps:=["stock","thing"]) ?_ ?_ ?_ ?_ ?_ ?_
 exact G_35
 exact (hr.mono (by decide))
 exact T.m_35
 exact T.F_35.kp
 exact T.b_35
 refine zaa ?_ ?_
 exact zac 1
 refine zaa ?_ ?_
 exact zac 0
 exact zad
 exact zad
 refine zar ?_
 refine zaX ?_
 exact zkC
 exact zbM
 refine zar ?_
 refine zaX ?_
 exact zkC
end
end K71
set_option exponentiation.threshold 8000
namespace L3
open PySem PySem.Spec PyProof.Rows L2 LT
section
theorem zqa {fo fe:FE} {sd:Sd}:zrp fo fe sd=(do let x<-fo sd;zcl x;let y<-fe sd;zef x y):=rfl
theorem zpg {c:Nat} {h:Hh} {ds:List D} {i:Int} {d:D} {P:D->Hh->Prop} (e:h[c]? = some (.lst ds)) (i0:0<=i) (i1:i<1000) (ed:ds[i.toNat]? = some d) (k:P d (h.set c (.lst (ds.eraseIdx i.toNat)))):wp (zef (.cel c) (.int i)) h P:=by
 show wp (zaf c>>=_) h P
 rw [zah,zbf e]
 rw [qa4 ⟨i0,i1⟩,ed]
 simp only [zah,zgC,zak]
 exact k
theorem zk1 {xs:List Int} {i:Nat} {x:Int} (e:xs[i]? = some x):List.Perm (x::xs.eraseIdx i) xs:=by
 obtain ⟨h,rfl⟩:=qac.mp e
 have e2:xs=xs.take i++xs[i]::xs.drop (i+1):=by simp
 rw [List.eraseIdx_eq_take_drop_succ]
 conv=>rhs;rw [e2]
 exact List.perm_middle.symm
noncomputable def pdO (o:List Int×Int):PyData:= .tuple [.tuple (o.1.map PyData.int),.int o.2]
theorem zjF: ∀ os:List (List Int×Int),pdL (os.map zcj)=some (os.map pdO)
 | []=>rfl
 | o::r=>by
  rw [qaM,pdL,zjF r]
  simp only [zcj,tI,pd,pdL,zbm,Option.map,pdO,qaM]
theorem zhA: ∀ os:List (List Int×Int),PyData.canLayAll0 (os.map pdO)=true
 | []=>rfl
 | o::r=>by simp [PyData.canLayAll0,PyData.canLay0,zaZ,zhA r,pdO]
theorem ziW (os:List (List Int×Int)):PyData.depthAll (os.map pdO)<=2:=by
 induction os with
 | nil=>simp [PyData.depthAll]
 | cons o r ih=>
  rw [qaM]
  simp only [PyData.depthAll,PyData.depth,zbh,pdO]
  omega
theorem zic: ∀ os:List (List Int×Int),PyData.eqvAll (os.map pdO) (os.map pdO)=true
 | []=>rfl
 | o::r=>by
  rw [qaM]
  simp [PyData.eqvAll,PyData.eqv,pdO,zdi,zic r]
theorem zqE {x y:D} {a b:PyData} (e1:pd x=some a) (e2:pd y=some b) (h:zfv a b=true):dNe x y=pure (.bl (!PyData.eqv a b)):=by
 show zin true x y=_
 unfold zin
 rw [e1,e2]
 simp only [h,if_true]
theorem zns (m:Int) (os:List (List Int×Int)):dNe (zbe m os) (zbe m os)=pure (.bl false):=by
 have e:pd (zbe m os)=some (.tuple [.int m,.tuple (os.map pdO)]):=by
  simp only [zbe,pd,pdL,zjF,Option.map]
 have hd:=ziW os
 rw [zqE e e (by unfold zfv;simp [PyData.canLay0,PyData.canLayAll0,zhA,PyData.depth,PyData.depthAll];omega)]
 simp [PyData.eqvAll,PyData.eqv,zic]
theorem zf5 {α:Type} {g':α->D} {f:D->M (Option D)} {k:α->Option D}: ∀ {xs:List α},(∀ x∈xs,f (g' x)=pure (k x))->zbo f (xs.map g')=pure (xs.filterMap k)
 | [],_=>rfl
 | x::r,hf=>by
  rw [qaM,zbo,hf x qau,zf5 fun y hy=>hf y (qan _ hy)]
  simp only [pure_bind]
  cases e:k x<;>simp [qat,e]
theorem zb9 {α:Type} {g':α->D} {fi:FA} {g:D->Sd->M Sd} {tc:FT} {te:FE} {src:List (Option Nat)} {sd:Sd} {xs:List α} {k:α->Option D} (hi:fi sd=pure (xs.map g')) (hl:xs.length<=1000) (hf: ∀ x∈xs,zaY g tc te (zal src sd) (g' x)=pure (k x)):zaI fi g tc te src sd=pure (.lst (xs.filterMap k)):=by
 unfold zaI
 rw [hi]
 simp only [pure_bind]
 rw [zay (by rw [qaH];exact hl)]
 simp only [pure_bind]
 rw [zf5 hf]
 simp only [pure_bind]
theorem zb7 (p:Int×D) (r:List (Int×D)) (j:Int):zdG (p::r) j=if p.1==j then some p.2 else zdG r j:=by
 unfold zdG
 rw [List.find?_cons]
 cases p.1==j<;>rfl
theorem zhq {k j:Int} {d:D}: ∀ kvs:List (Int×D),zdG (kvs.map fun p=>if p.1=k then (p.1,d) else p) j=if k==j then (zdG kvs j).map fun _=>d else zdG kvs j
 | []=>by simp [zdG]
 | p::r=>by
  rw [qaM,zb7,zb7,zhq r]
  by_cases h1:p.1=k
  ·subst h1
   by_cases h2:p.1=j
   ·subst h2
    simp
   ·simp [h2]
  ·rw [qa5 h1]
   by_cases h2:p.1=j
   ·subst h2
    simp [Ne.symm h1]
   ·simp [h2]
theorem zh2 {k j:Int} {d:D}: ∀ kvs:List (Int×D),(kvs.any fun p=>decide (p.1=k))=false->zdG (kvs++[(k,d)]) j=if k==j then some d else zdG kvs j
 | [],_=>by rw [List.nil_append,zb7]
 | p::r,h=>by
  rw [List.any_cons,Bool.or_eq_false_iff,decide_eq_false_iff_not] at h
  rw [List.cons_append,zb7,zb7,zh2 r h.2]
  by_cases h2:p.1=j
  ·subst h2
   simp [Ne.symm h.1]
  ·simp [h2]
theorem zhy {k:Int}: ∀ kvs:List (Int×D),(kvs.any fun p=>decide (p.1=k))=true-> ∃ x,zdG kvs k=some x
 | [],h=>by cases h
 | p::r,h=>by
  rw [zb7]
  by_cases h1:p.1=k
  ·exact ⟨p.2,by simp [h1]⟩
  ·rw [List.any_cons,decide_eq_false h1,Bool.false_or] at h
   obtain ⟨x,hx⟩:=zhy r h
   exact ⟨x,by simp [h1,hx]⟩
theorem zhU (kvs:List (Int×D)) (k j:Int) (d:D):zdG (zmh kvs k d) j=if k==j then some d else zdG kvs j:=by
 unfold zmh
 split
 ·rename_i h
  rw [zhq]
  by_cases e:k=j
  ·subst e
   obtain ⟨x,hx⟩:=zhy kvs h
   simp [hx]
  ·simp [e]
 ·rename_i h
  exact zh2 kvs (Bool.not_eq_true _▸h)
theorem zkA {fo fe:FE} {sd:Sd}:zeH fo fe sd=(fo sd>>=fun x=>zcl x>>=fun _=>fe sd>>=fun y=>zc0 x y):=rfl
theorem zmK {n:Nat}:zh9 [.cel n]=(do let ds<-zaf n;pure (.int ds.length)):=rfl
theorem zr5 {ds:List D} {lo hi:Option Int}:dSl (.lst ds) lo hi=pure (.lst (zeN ds lo hi)):=rfl
theorem zpf {fo fi fe:FE} {sd:Sd}:zpD fo fi fe sd=(do let x<-fo sd;zcl x;let i<-fi sd;let y<-fe sd;zeg x i y):=rfl
theorem zkZ {n:Nat} {kvs:List (Int×D)} {x:Int} {d:D} {h:Hh} {P:D->Hh->Prop} (e:h[n]? = some (.dic kvs)) (eg:zdG kvs x=some d) (k:P d h):wp (zqT (.cel n) (.int x)) h P:=by
 refine ⟨d,h,?_,k⟩
 show M.bind (zgw n) _ h=_
 unfold M.bind zgw
 rw [e]
 show ofO (zdG kvs x) h=_
 rw [eg]
 rfl
noncomputable def rgI (n:Nat):List Int:=(List.range n).map fun (k:Nat)=>(k:Int)
noncomputable def zd7 (ys:List Int) (x:Int):Nat:=ys.findIdx (· == x)
theorem zdc {ys:List Int} {x:Int} (h:x∈ys):zd7 ys x<ys.length:=List.findIdx_lt_length_of_exists ⟨x,h,by simp⟩
theorem zdO {ys:List Int} {x:Int} (h:zd7 ys x<ys.length):ys[zd7 ys x]=x:=by
 unfold zd7 at h ⊢
 have:=List.findIdx_getElem (p:=(· == x)) (xs:=ys) (w:=h)
 simpa using this
theorem zpy {ys:List Int} (nd:ys.Nodup) {j:Nat} (h:j<ys.length):zd7 ys ys[j]=j:=by
 have h1:zd7 ys ys[j]<ys.length:=zdc (List.getElem_mem h)
 have h2:=zdO h1
 have key:=List.pairwise_iff_getElem.mp nd
 rcases Nat.lt_trichotomy (zd7 ys ys[j]) j with c | c | c
 ·exact absurd h2 (key _ _ h1 h c)
 ·exact c
 ·exact absurd h2.symm (key _ _ h h1 c)
noncomputable def zie (xs ys:List Int):List Int:=((List.range ys.length).filter fun j=>xs.any (· == ys.getD j 0)).map fun (k:Nat)=>(k:Int)
theorem zl5 (xs ys:List Int):(zie xs ys).Pairwise (· < ·):=by
 unfold zie
 rw [List.pairwise_map]
 exact (List.pairwise_lt_range.sublist List.filter_sublist).imp fun h=>by omega
theorem zgP {xs ys:List Int} {k:Int}:k∈zie xs ys↔ ∃ j:Nat, ∃ h:j<ys.length,ys[j]∈xs/\k=j:=by
 unfold zie
 constructor
 ·intro h
  obtain ⟨j,hj,rfl⟩:=qaU.mp h
  obtain ⟨h1,h2⟩:=List.mem_filter.mp hj
  have hl:=List.mem_range.mp h1
  refine ⟨j,hl,?_,rfl⟩
  simpa [List.getD,hl] using h2
 ·rintro ⟨j,hl,hx,rfl⟩
  exact qaU.mpr ⟨j,List.mem_filter.mpr ⟨List.mem_range.mpr hl,by simpa [List.getD,hl] using hx⟩,rfl⟩
theorem zk7 {xs ys:List Int} (hx:xs.Nodup) (hy:ys.Nodup) (hs: ∀ x∈xs,x∈ys):zba (xs.map fun x=>(zd7 ys x:Int))=zie xs ys:=by
 refine znF (zdI ?_) (zl5 xs ys) fun k=> ?_
 ·rw [List.Nodup,List.pairwise_map]
  refine List.Pairwise.imp_of_mem (fun {a b} ha hb hab e=>hab ?_) hx
  have h1:=zdO (zdc (hs a ha))
  have h2:=zdO (zdc (hs b hb))
  have e':zd7 ys a=zd7 ys b:=by omega
  rw [<- h1, <-h2]
  simp only [e']
 ·rw [(zat _).mem_iff,zgP]
  constructor
  ·intro h
   obtain ⟨x,hx',rfl⟩:=qaU.mp h
   exact ⟨zd7 ys x,zdc (hs x hx'),by rw [zdO (zdc (hs x hx'))];exact hx',rfl⟩
  ·rintro ⟨j,hl,hm,rfl⟩
   exact qaU.mpr ⟨ys[j],hm,by rw [zpy hy hl]⟩
theorem zfX: ∀ (ps:List (Int×D)) {kvs:List (Int×D)} {x:Int},x∉ps.map Prod.fst->zdG (ps.foldl (fun kvs p=>zmh kvs p.1 p.2) kvs) x=zdG kvs x
 | [],_,_,_=>rfl
 | p::r,kvs,x,h=>by
  rw [qaM,qaP,not_or] at h
  rw [List.foldl_cons,zfX r h.2,zhU,qa5 (by simpa using fun z=>h.1 z.symm)]
theorem zmc: ∀ (ps:List (Int×D)) {kvs:List (Int×D)} {x:Int} {d:D},(x,d)∈ps->(ps.map Prod.fst).Nodup->zdG (ps.foldl (fun kvs p=>zmh kvs p.1 p.2) kvs) x=some d
 | p::r,kvs,x,d,h,nd=>by
  rw [qaM,List.nodup_cons] at nd
  rw [List.foldl_cons]
  rcases qaP.mp h with rfl | h
  ·rw [zfX r nd.1,zhU]
   simp
  ·exact zmc r h nd.2
noncomputable def plc (ys:List Int):List (Int×D):=(List.range ys.length).map fun (j:Nat)=>(ys.getD j 0,D.int (j:Int))
theorem zmL (ys:List Int):(plc ys).map Prod.fst=ys:=by
 unfold plc
 rw [qaT]
 apply List.ext_getElem
 ·simp
 ·intro i h1 h2
  simp [List.getD,h2]
theorem znU {ys:List Int} (nd:ys.Nodup) {x:Int} (h:x∈ys):zdG (zeT (plc ys)) x=some (.int (zd7 ys x:Int)):=by
 refine zmc _ ?_ (by rw [zmL];exact nd)
 have h1:=zdc h
 exact qaU.mpr ⟨zd7 ys x,List.mem_range.mpr h1,by simp [List.getD,h1,zdO h1]⟩
noncomputable def zfu (xs:List Int):Int:=xs.head?.getD 0
noncomputable def zfZ (xs:List Int):Int:=xs.getLast?.getD 0
noncomputable def zl9 (xs:List Int):Bool:=zfZ xs - zfu xs==(xs.length:Int) - 1
theorem zjJ {xs:List Int} (h:xs≠[]):atI (xs.map D.int) 0=some (.int (zfu xs)):=by
 cases xs with
 | nil=>exact absurd rfl h
 | cons x r=>rw [qaM,zio];rfl
theorem zjU {xs:List Int} (h:xs≠[]):atI (xs.map D.int) (-1)=some (.int (zfZ xs)):=by
 refine zor ?_
 rw [List.getLast?_map]
 unfold zfZ
 cases e:xs.getLast? with
 | none=>exact absurd (List.getLast?_eq_none_iff.mp e) h
 | some z=>rfl
theorem zku {xs:List Int} (h:xs≠[]):zfu xs∈xs:=by
 cases xs with
 | nil=>exact absurd rfl h
 | cons x r=>exact qau
theorem zd9 {xs:List Int} (h:xs≠[]):zfZ xs∈xs:=by
 unfold zfZ
 cases e:xs.getLast? with
 | none=>exact absurd (List.getLast?_eq_none_iff.mp e) h
 | some z=>exact List.mem_of_getLast? e
theorem btw {xs:List Int} (h:xs.Pairwise (· < ·)): ∀ x∈xs,zfu xs<=x/\x<=zfZ xs:=by
 intro x hx
 have hne:xs≠[]:=fun z=>by rw [z] at hx;cases hx
 constructor
 ·cases xs with
  | nil=>cases hx
  | cons y r=>
   show y<=x
   rw [qay] at h
   rcases qaP.mp hx with rfl | hx
   ·exact Int.le_refl _
   ·exact Int.le_of_lt (h.1 x hx)
 ·have e:xs=xs.dropLast++[zfZ xs]:=by
   unfold zfZ
   rw [List.getLast?_eq_some_getLast hne]
   exact (List.dropLast_concat_getLast hne).symm
  rw [e] at h
  rw [qaq] at h
  rw [e] at hx
  rcases qaK.mp hx with hx | hx
  ·exact Int.le_of_lt (h.2.2 x hx _ (List.mem_singleton.mpr rfl))
  ·rw [List.mem_singleton.mp hx]
   exact Int.le_refl _
theorem zmX {xs:List Int} (hne:xs≠[]) (h:xs.Pairwise (· < ·)):(xs==(List.range (zfZ xs+1 - zfu xs).toNat).map fun (k:Nat)=>zfu xs+(k:Int))=zl9 xs:=by
 have hb:=btw h
 have hle:=(hb _ (zd9 hne)).1
 have key:=zmU (xs:=xs.map fun x=>x - zfu xs) (m:=zfZ xs+1 - zfu xs) (by omega) (by rw [List.pairwise_map];exact h.imp fun h=>by omega) fun y hy=>by
  obtain ⟨x,hx,rfl⟩:=qaU.mp hy
  have:=hb x hx
  omega
 rw [qaH] at key
 have e1:(xs==(List.range (zfZ xs+1 - zfu xs).toNat).map fun (k:Nat)=>zfu xs+(k:Int))=((xs.map fun x=>x - zfu xs)==(List.range (zfZ xs+1 - zfu xs).toNat).map fun (k:Nat)=>(k:Int)):=by
  generalize zfu xs=c
  generalize (zfZ xs+1 - c).toNat=n
  rw [Bool.eq_iff_iff,beq_iff_eq,beq_iff_eq]
  constructor
  ·intro e
   rw [e,qaT]
   refine List.map_congr_left fun k _=> ?_
   show c+(k:Int) - c=k
   omega
  ·intro e
   have e2:=congrArg (List.map fun x=>c+x) e
   rw [qaT,qaT] at e2
   have e3:(xs.map ((fun x=>c+x)∘fun x=>x - c))=xs:=by
    conv=>rhs;rw [<- List.map_id xs]
    refine List.map_congr_left fun x _=> ?_
    show c+(x - c)=x
    omega
   rw [e3] at e2
   exact e2
 rw [e1,key]
 unfold zl9
 rw [Bool.eq_iff_iff,beq_iff_eq,beq_iff_eq]
 omega
theorem zcX {i j:Int} (h:i<=j) (h0: -1000<=i) (h1:j<1000):zcF (.int i) (.int j)=pure (tI ((List.range (j - i).toNat).map fun (k:Nat)=>i+(k:Int))):=by
 show (if i<=j/\ -1000<=i/\j<1000 then _ else _)=_
 rw [qa4 ⟨h,h0,h1⟩]
 unfold tI zcP
 rw [qaT]
 rfl
theorem zgS {j:Int} (h0:0<=j) (h1:j<1000):zdh (.int j)=pure (.lst ((rgI j.toNat).map D.int)):=by
 show (if 0<=j/\j<1000 then _ else _)=_
 rw [qa4 ⟨h0,h1⟩,zbL]
 rfl
noncomputable def zg2 (m:Int):D->Bool
 | .tup ds=>ds.all isI && (match zci ds with | some xs=>zba xs==rgI m.toNat | none=>false)
 | _=>false
theorem zht {m:Int} {d:D} (h:zg2 m d=true): ∃ ys:List Int,d=tI ys/\ys.Perm (rgI m.toNat):=by
 unfold zg2 at h
 split at h
 ·rename_i ds
  rw [qaG] at h
  obtain ⟨xs,rfl⟩:=zeq h.1
  rw [zaP] at h
  have e:=h.2
  simp only [beq_iff_eq] at e
  exact ⟨xs,rfl,(zat xs).symm.trans (e▸List.Perm.refl _)⟩
 ·cases h
theorem zjf {m:Int} {ys:List Int} (h:ys.Perm (rgI m.toNat)):zg2 m (tI ys)=true:=by
 have nd:ys.Nodup:=h.nodup_iff.mpr ((zcr _).imp fun z=>by omega)
 show ((ys.map D.int).all isI && (match zci (ys.map D.int) with | some xs=>zba xs==rgI m.toNat | none=>false))=true
 rw [zaP,qaG]
 refine ⟨?_,?_⟩
 ·rw [List.all_eq_true]
  intro x hx
  obtain ⟨i,_,rfl⟩:=qaU.mp hx
  rfl
 ·show (zba ys==rgI m.toNat)=true
  rw [beq_iff_eq]
  exact znF (zdI nd) (zcr _) fun k=>by rw [(zat ys).mem_iff,h.mem_iff]
end
section
theorem zhP {n:Nat} {ds:List D} {h:Hh} {P:Unit->Hh->Prop} (e:h[n]? = some (.lst ds)) (q:P () h):wp (chk n ds) h P:=by
 refine ⟨(),h,?_,q⟩
 unfold chk
 rw [qa4 e]
theorem zmY {α:Type} {g':α->D} {f:D->M (Option D)} {k:α->Option D} {h:Hh}: ∀ {xs:List α} {P:List D->Hh->Prop},(∀ x∈xs,wp (f (g' x)) h fun o h'=>o=k x/\h'=h)->P (xs.filterMap k) h->wp (zbo f (xs.map g')) h P
 | [],P,_,q=>by rw [List.map_nil,zbo,zak];exact q
 | x::r,P,hf,q=>by
  rw [qaM,zbo,zah]
  refine zgR (hf x qau) ?_
  rintro o h' ⟨rfl,rfl⟩
  rw [zah]
  refine zmY (fun y hy=>hf y (qan _ hy)) ?_
  rw [zak]
  rw [qat] at q
  cases hk:k x<;>rw [hk] at q<;>exact q
theorem zkF {α:Type} {f:α->Int×D}: ∀ xs:List α,prs (xs.map fun x=>D.tup [.int (f x).1,(f x).2])=some (xs.map f)
 | []=>rfl
 | x::r=>by
  rw [qaM,prs,zkF r]
  rfl
theorem zk9 {ds:List D} {ps:List (Int×D)} (e:prs ds=some ps):znS [.lst ds]=zhL (zeT ps):=by
 show (do let ps<-ofO (prs ds);zhL (zeT ps):M D)=_
 rw [e]
 rfl
theorem zjz {kvs:List (Int×D)} {h:Hh} {P:D->Hh->Prop} (k:P (.cel h.length) (h++[.dic kvs])):wp (zhL kvs) h P:=⟨_,_,rfl,k⟩
theorem zhv {n:Nat} {full:List D} {F:D->M (Option D)} {k:D->Option D}: ∀ (ys:List D) {h:Hh} {P:List D->Hh->Prop},h[n]? = some (.lst full)->(∀ x∈ys,Ev (F x) (k x))->(∀ h',Gro h h'->P (ys.filterMap k) h')->wp (zbE n full F ys) h P
 | [],h,P,e,_,q=>by
  rw [zbE,zah]
  refine zhP e ?_
  rw [zak]
  exact q h .refl
 | y::r,h,P,e,hf,q=>by
  rw [zbE,zah]
  refine zhP e ?_
  rw [zah]
  refine (hf y qau).wp fun h1 g1=> ?_
  rw [zah]
  refine zhv r (g1.get e) (fun x hx=>hf x (qan _ hx)) fun h2 g2=> ?_
  rw [zak]
  have q:=q h2 (g1.trans g2)
  rw [qat] at q
  cases hk:k y<;>rw [hk] at q<;>exact q
end
section
theorem ziv {b c:Nat} {h:Hh} {x:C} (q:Bx b h) (hbc:c≠b):Bx b (h.set c x):=by
 obtain ⟨y,ey⟩:=q
 exact ⟨y,by rw [qao hbc];exact ey⟩
theorem znv {b:Nat} {h:Hh} (q:Bx b h):h.length≠b:=by
 obtain ⟨z,e⟩:=q
 have:=(qac.mp e).1
 omega
theorem zgl {c:Nat} {h:Hh} {x y:C} (e:h[c]? = some x):(h.set c y)[c]? = some y:=by
 have:=(qac.mp e).1
 simp [this]
theorem zei {c:Nat} {h:Hh} {ds:List D} {y:D} {P:D->Hh->Prop} (e:h[c]? = some (.lst ds)) (hl:ds.length+1<=1000) (k:P .non (h.set c (.lst (ds++[y])))):wp (zc0 (.cel c) y) h P:=by
 show wp (zaf c>>=_) h P
 rw [zah,zbf e]
 rw [zay hl]
 simp only [pure_bind,zah,zgC,zak]
 exact k
theorem zja {c:Nat} {h:Hh} {ds:List D} {i:Int} {y:D} {P:D->Hh->Prop} (e:h[c]? = some (.lst ds)) (h0:0<=i) (h1:i<=ds.length) (hl:ds.length<1000) (k:P .non (h.set c (.lst (ds.take i.toNat++y::ds.drop i.toNat)))):wp (zeg (.cel c) (.int i) y) h P:=by
 show wp (zaf c>>=_) h P
 rw [zah,zbf e]
 rw [qa4 ⟨h0,h1,hl⟩]
 simp only [zah,zgC,zak]
 exact k
theorem zqe {c:Nat} {h:Hh} {ds:List D} {P:D->Hh->Prop} (e:h[c]? = some (.lst ds)) (k:P (.lst ds) (h.set c .dead)):wp (zpC (.cel c)) h P:=by
 refine ⟨_,_,?_,k⟩
 show (match h[c]? with | some (.lst ds)=>R.ok (D.lst ds) (h.set c .dead) | _=> .bad)=_
 rw [e]
theorem zpi {bk:List Int} {x:Int} (h:x∈bk):zoi (.tup (bk.map D.int)) (.int x)=pure (.int (zd7 bk x:Int)):=by
 show (do let ns<-ofO (zci (bk.map D.int));let j<-ofO (ns.findIdx? (· == x));pure (.int j):M D)=_
 rw [zaP]
 simp only [zdt,pure_bind]
 have e:bk.findIdx? (· == x)=some (zd7 bk x):=List.findIdx?_eq_some_iff_findIdx_eq.mpr ⟨zdc h,rfl⟩
 rw [e]
 rfl
def znJ (m:Int) (o:List Int×Int):Prop:=o.1.Pairwise (· < ·)/\(∀ x∈o.1,0<=x/\x<m)/\o.1≠[]/\0<o.2
noncomputable def rgA (i j:Int):List Int:=(List.range (j - i).toNat).map fun (k:Nat)=>i+(k:Int)
theorem zkG {m i j p:Int} (h0:0<=i) (h1:i<j) (h2:j<=m) (hp:0<p):znJ m (rgA i j,p):=by
 refine ⟨?_,?_,?_,hp⟩
 ·show (rgA i j).Pairwise (· < ·)
  unfold rgA
  rw [List.pairwise_map]
  exact List.pairwise_lt_range.imp fun h=>by omega
 ·intro x hx
  obtain ⟨k,hk,rfl⟩:=qaU.mp hx
  have:=List.mem_range.mp hk
  omega
 ·intro z
  have:(rgA i j).length=0:=by rw [show rgA i j=[] from z];rfl
  simp [rgA] at this
  omega
theorem zmB {m:Int} {os:List (List Int×Int)} (m0:1<=m) (m1:m<=10) (hl:os.length<=12) (h: ∀ o∈os,znJ m o):Stk m os:=⟨m0,m1,hl,fun o ho=>(h o ho).1,fun o ho=>(h o ho).2.1,fun o ho=>(h o ho).2.2.1,fun o ho=>(h o ho).2.2.2⟩
end
end L3
namespace K71
open PySem PySem.Spec PyProof.Rows L2 L3 LT
set_option hygiene false in
local macro_rules | `(tactic| ac_nf0)=> `(tactic| simp only [za5,zcB,zhY,zcu,zkL,zka,znD,zge,zbg,zaK,za0,zbX,zlu,ze6,zaB,zaJ,pure_bind,bind_assoc,zgJ,zqR,zeV,zrO,List.set,zed,zqw,zpl,zps,zr1,zjS,zr3,zi6,zrg,zfY,zhJ,zfn,zdd,znE,zbi,zm4,zcR,zr0,zki,zio,zpM,zdt,zp6,zmx,zr2,zqP,zqx,zfT,zdp,zjY,zhk,zkr,zgv,zo1,zah,zak,zhN,qaE,qaJ,qaH,Nat.zero_add,Nat.reduceAdd,Nat.reduceLeDiff,zay,zcj,tI,zi4,zn4,zlr,zqH,zkT,zik,zkY,zrz,zmT,zmR,zqL,zq0,zra,zo4,zmr,zpN,zqv,zrW,zm8,zsI,if_true,Bool.not_true,Bool.not_false,qax,if_false,qav,List.cons_append,List.nil_append,zoI,zpj,zkA,zr5,zqa,zpf])
variable {m:Int} {os:List (List Int×Int)} {i:Nat}
theorem zkg {d:D} (k:kn d=true):F_23 [d]=pure (.bl (isI d)):=by
 rw [d_23]
 simp only [G_23,zcu,zjS,zlu,zaB,pure_bind,bind_assoc,zjs k,zmw k,zdd,zi6]
 cases d<;>simp [isI]
noncomputable def zfR (m:Int):D->Bool
 | .tup [.tup ts,.int p]=>zdj m 0 ts && decide (0<(ts.length:Int)) && decide (0<p/\p<2^64)
 | _=>false
theorem zaA {h:Hh} {b:Nat} {m:Int} {P:D->Hh->Prop} (q:Bx b h) (h0:0<m) (h1:m<2^64) (k: ∀ t h',0<=t->t<m->Ext b h h'->P (.int t) h'):wp (F_22 [.cel b,.int m]) h P:=by
 obtain ⟨z,e⟩:=id q
 rw [d_22]
 simp only [G_22,za5,zcB,zbX,zaB,zaJ,pure_bind,bind_assoc,ze6,zlF,zah,zbf e,zio,zdt,zak,zes h0,zgJ,List.set,zhY,zhI h0 h1,zj6,zmn]
 have e2:ixN ([D.int z]:List D).length 0=some 0:=rfl
 simp only [zah,zbf e,e2,zdt,zak,zgC,zgJ,zcu,zaJ,zaB,zeV,List.set]
 exact k _ _ (Int.emod_nonneg _ (by omega)) (Int.emod_lt_of_pos _ h0) q.set
theorem znp {ns:List Int} {k:Int} (h0:0<=k): ∃ c:Int,F_20 [.scr (ns.map D.int),.int k]=pure (.int c):=by
 rw [d_20]
 simp only [G_20,za5,zkL,zed,zaJ,zaB,pure_bind,bind_assoc,zbg,zaK,za0,zmG,zsG,zdd]
 by_cases hk:k<((ns.map D.int).length:Int)
 ·have hk':k.toNat<ns.length:=by simp at hk;omega
  have ea:atI (ns.map D.int) k=some (.int ns[k.toNat]):=by
   have:=zfe (xs:=ns.map D.int) (j:=k.toNat) (v:= .int ns[k.toNat]) (by simp [hk'])
   rw [<- this]
   congr 1
   omega
  simp only [hk,decide_true,if_true,zcu,zbX,zaB,zaJ,pure_bind,zrk,ea,zdt,zqR,zeV]
  exact ⟨_,rfl⟩
 ·simp only [hk,decide_false,qax,if_false,zge,pure_bind,zgJ,zcu,zbX,ze6,zaJ,zaB,zf6 (show (-1000000000000000:Int)<6151 by decide) (show (6151:Int)<1000000000000000 by decide),zcR,zeV]
  exact ⟨_,rfl⟩
theorem zhx {s0 s2:Option D} {k:Int} (k0:0<=k) (k5:k<5): ∀ (ds:List D) (n mx:Int) (x5:Option D),(∀ d∈ds, ∃ j:Int,d= .int j/\0<=j/\j<24)->0<=mx->mx<2147483647->
  ∃ (n' mx':Int) (x5':Option D),zbd (fun x sd=>do let sd1<-za1 5 x sd;zco sd1) ds [s0,some (.int k),s2,some (.int n),some (.int mx),x5]=pure (.nx [s0,some (.int k),s2,some (.int n'),some (.int mx'),x5'])
 | [],n,mx,x5,_,_,_=>⟨n,mx,x5,rfl⟩
 | d::r,n,mx,x5,hd,m0,m1=>by
  obtain ⟨j,rfl,j0,j1⟩:=hd _ qau
  obtain ⟨n',mx',x5',ih⟩:=zhx k0 k5 r (n*2147483647+(mx*48271+7*j*j+11*k+1) % 2147483647) ((mx*48271+7*j*j+11*k+1) % 2147483647) (some (.int j)) (fun y hy=>hd y (qan _ hy)) (Int.emod_nonneg _ (by decide)) (Int.emod_lt_of_pos _ (by decide))
  refine ⟨n',mx',x5',?_⟩
  rw [zc1, <-ih]
  simp only [zco,zdp,List.set,pure_bind,bind_assoc,za5,zcB,zbX,zaJ,zaB,ze6,zf6 (show -1000000000000000<mx by omega) (show mx<1000000000000000 by omega),zf6 (show (-1000000000000000:Int)<7 by decide) (show (7:Int)<1000000000000000 by decide),
    zmi (i:=7*j) (show -1000000000000000<j by omega) (show j<1000000000000000 by omega),zf6 (show (-1000000000000000:Int)<11 by decide) (show (11:Int)<1000000000000000 by decide),zcR,zes (show (0:Int)<2147483647 by decide),zgJ,zmi (i:=n) (show (-1000000000000000:Int)<2147483647 by decide) (show (2147483647:Int)<1000000000000000 by decide)]
theorem zqB {h:Hh} {ns:List Int} {k:Int} {P:D->Hh->Prop} (k0:0<=k) (k5:k<5) (q: ∀ z:Int,P (.cel h.length) (h++[.lst [.int z]])):wp (F_21 [.scr (ns.map D.int),.int k]) h P:=by
 obtain ⟨c,ec⟩:=znp (ns:=ns) k0
 rw [d_21]
 simp only [G_21,za5,zcB,zbg,zaK,za0,zaB,zaJ,pure_bind,bind_assoc,zbi,ec,zgJ,List.set,zkL,zed,zbX,ze6,zes (show (0:Int)<2 by decide),zoS,zdd]
 by_cases hc:(c % 2==0)=true
 ·simp only [hc,if_true,zcu,zfn,zaK,za0,zbX,zaJ,zaB,ze6,pure_bind,bind_assoc,zhI (show (0:Int)<2 by decide) (show (2:Int)<2^64 by decide),qaE,qaJ,zay (show 0+1<=1000 by decide),zah,zhN,zak,zqR,zeV]
  exact q _
 ·obtain ⟨n',mx',x5',el⟩:=zhx (s0:=some (.scr (ns.map D.int))) (s2:=some (.int c)) k0 k5 (zcP 0 24) 0 (c % 2147483647) none (fun d hd=>by
    obtain ⟨i,e,i0,i1⟩:=zfE hd
    exact ⟨i,e,i0,by omega⟩) (Int.emod_nonneg _ (by decide)) (Int.emod_lt_of_pos _ (by decide))
  have er:zj5 [.int 24]=pure (zcP 0 24):=zbW (by decide) (by decide)
  simp only [hc,if_false,zge,pure_bind,zgJ,za5,zcB,ze6,List.set,zbX,zaJ,zaB,zes (show (0:Int)<2147483647 by decide),zka,zfT,zaK,za0,er,bind_assoc,el,zcu,zfn,qaE,qaJ,zay (show 0+1<=1000 by decide),zah,zhN,zak,zeV,qax]
  exact q _
theorem zgB {a b:Nat} (h:a<=b):(2:Int)^a<=2^b:=by
 have:(2:Nat)^a<=2^b:=Nat.pow_le_pow_right (by decide) h
 exact_mod_cast this
theorem zh5 {bits:Int}: ∀ (m:Nat),0<bits->bits<2^m-> ∃ j:Nat,j<m/\(bits / 2^j) % 2=1
 | 0,h0,h1=>by simp at h1;omega
 | m+1,h0,h1=>by
  by_cases c:bits<2^m
  ·obtain ⟨j,a,b⟩:=zh5 m h0 c
   exact ⟨j,by omega,b⟩
  ·refine ⟨m,by omega,?_⟩
   have hp:(0:Int)<2^m:=Int.pow_pos (by decide)
   have e:bits / 2^m=1:=by
    have h2:(2:Int)^(m+1)=2*2^m:=by rw [Int.pow_succ];omega
    have a1:1<=bits / 2^m:=(Int.le_ediv_iff_mul_le hp).mpr (by omega)
    have a2:bits / 2^m<2:=(Int.ediv_lt_iff_lt_mul hp).mpr (by omega)
    omega
   rw [e]
   decide
noncomputable def zoz (bits:Int) (d:D):Option D:=match d with
 | .int j=>if ((bits / 2^j.toNat) % 2==1)=true then some d else none
 | _=>none
theorem zf0 (bits:Int): ∀ xs:List Int,(xs.map D.int).filterMap (zoz bits)=(xs.filter fun j=>(bits / 2^j.toNat) % 2==1).map D.int
 | []=>rfl
 | x::r=>by
  rw [qaM,qat,List.filter_cons,zf0 bits r]
  unfold zoz
  dsimp only
  split<;>simp_all
theorem zjZ {bits:Int} {m:Nat} (h0:0<bits) (h1:bits<2^m):zdj m 0 ((zcP 0 m).filterMap (zoz bits))=true/\(zcP 0 m).filterMap (zoz bits)≠[]:=by
 rw [zbL,zf0]
 constructor
 ·rw [zbp]
  constructor
  ·refine List.Pairwise.filter _ ?_
   rw [List.pairwise_map]
   exact List.pairwise_lt_range.imp fun h=>by omega
  ·intro x hx
   obtain ⟨k,hk,e⟩:=qaU.mp (List.mem_filter.mp hx).1
   have:=List.mem_range.mp hk
   omega
 ·obtain ⟨j,a,b⟩:=zh5 m h0 h1
  intro z
  have:((j:Int))∈((List.range m).map fun (k:Nat)=>(k:Int)).filter fun j=>(bits / 2^j.toNat) % 2==1:=by
   refine List.mem_filter.mpr ⟨qaU.mpr ⟨j,List.mem_range.mpr a,rfl⟩,?_⟩
   rw [qaB,b]
   rfl
  have z':=List.map_eq_nil_iff.mp z
  rw [z'] at this
  cases this
theorem zkI {h:Hh} {b:Nat} {m:Int} {P:D->Hh->Prop} (q:Bx b h) (h0:1<=m) (h1:m<=10) (k: ∀ ts h',zdj m 0 ts=true->ts≠[]->Ext b h h'->P (.tup ts) h'):wp (F_26 [.cel b,.int m]) h P:=by
 rw [d_26]
 simp only [G_26,za5,zcB,zbg,zaK,za0,zaB,zaJ,pure_bind,bind_assoc,zbi,ze6,zah]
 refine zaA q (by decide) (by decide) fun way h2 w0 w1 x2=> ?_
 simp only [zak,zah,zgJ,List.set,za5,zkL,zed,zaJ,zaB,pure_bind,bind_assoc,ze6,zoS,zdd]
 by_cases hw:(way==0)=true
 ·rw [qa4 hw]
  simp only [za5,zcB,zbX,ze6,zaJ,zaB,pure_bind,bind_assoc,zbg,zaK,za0,zm0 (show 0<=m by omega) (show m<=1000 by omega),zm8,zbi,zah]
  have hp:(2:Int)<=2^m.toNat:=by
   have:(2:Int)^1<=2^m.toNat:=zgB (by omega)
   simpa using this
  have hp':(2:Int)^m.toNat<=2^10:=zgB (by omega)
  refine zaA x2.1 (by omega) (by omega) fun t h3 t0 t1 x3=> ?_
  have ed:zaI (zg3 (zab (zag 1) zan)) (za1 0) zbF zbH [none,some 3] [some (.cel b),some (.int m),some (.int way),some (.int (1+t)),none,none]=pure (.lst ((zcP 0 m.toNat).filterMap (zoz (1+t)))):=by
   refine zdF (by simp [zbW (show 0<=m by omega) (show m<1000 by omega)]) (by rw [zcf];omega) fun x hx=> ?_
   obtain ⟨i,rfl,i0,i1⟩:=zfE hx
   have eb:zal [none,some 3] [some (.cel b),some (.int m),some (.int way),some (.int (1+t)),none,none]=[none,some (D.int (1+t))]:=rfl
   rw [eb]
   simp only [zaY,zdp,List.set,pure_bind,zbF,zed,zbX,zaJ,zaB,ze6,zoj i0,zrD,znb,zoS,zdd,zbH,zoz]
   split<;>rfl
  simp only [zak,zah,zgJ,List.set,zcR,pure_bind,zcu,zbg,zaK,za0,bind_assoc,ed,zgv,zqR,zeV]
  have hm:((m.toNat:Nat):Int)=m:=Int.toNat_of_nonneg (by omega)
  have:=zjZ (bits:=1+t) (m:=m.toNat) (by omega) (by omega)
  rw [hm] at this
  exact k _ _ this.1 this.2 (x2.trans x3)
 ·rw [qa5 hw]
  have hw': ¬way=0:=by simpa using hw
  simp only [zge,zak,zgJ,za5,zhY,zfY,zaK,za0,zbg,zaB,zaJ,pure_bind,bind_assoc,zbi,zah]
  refine zaA x2.1 (by omega) (by omega) fun first h3 f0 f1 x3=> ?_
  simp only [zbX,zhJ,zaK,za0,ze6,zbg,zaB,zaJ,pure_bind,bind_assoc,zbi,zah,zak]
  refine zaA x3.1 (by decide) (by decide) fun t h4 t0 t1 x4=> ?_
  simp only [zcR,pure_bind,zak,zah,qaE,qaJ,zay (show 0+1+1<=1000 by decide),zaJ,zaB,zm8,zki,bind_assoc]
  obtain ⟨step,es,s0,s1⟩: ∃ s:Int,atI [D.int 1,D.int (1+t)] (way - 1)=some (.int s)/\1<=s/\s<=3:=by
   by_cases c:way=1
   ·subst c
    exact ⟨1,rfl,by decide,by decide⟩
   ·have c:way=2:=by omega
    subst c
    exact ⟨1+t,rfl,by omega,by omega⟩
  simp only [es,zdt,zak,zah,zjY,zhk,zdp,List.set,pure_bind,zkr,zgJ,zcu,zbg,zaK,za0,zlu,bind_assoc]
  unfold zaI
  simp only [zfT,zaK,za0,zbX,ze6,zbg,zaB,zaJ,pure_bind,bind_assoc,zbi,zah]
  refine zaA x4.1 (by decide) (by decide) fun u h5 u0 u1 x5=> ?_
  have eb:zal [none,some 4,some 5,some 1] [some (.cel b),some (.int m),some (.int way),none,some (.int first),some (.int step)]=[none,some (D.int first),some (.int step),some (.int m)]:=rfl
  have hl:zbo (zaY (za1 0) (fun _=>pure true) zbD [none,some (D.int first),some (.int step),some (.int m)]) (zcP 0 (1+u).toNat)=pure ((((List.range (1+u).toNat).map fun (k:Nat)=>(first+step*(k:Int)) % m)).map D.int):=by
   rw [zbL]
   rw [zdM (k:=fun d=>match d with | .int j=>some (.int ((first+step*j) % m)) | _=>none)]
   ·congr 1
    rw [List.filterMap_map]
    simp [Function.comp_def]
   ·intro x hx
    obtain ⟨j,_,rfl⟩:=qaU.mp hx
    simp only [zaY,zdp,List.set,pure_bind,if_true,zbD,zbX,zaJ,zaB,zf6 (show -1000000000000000<step by omega) (show step<1000000000000000 by omega),zcR,zes (show 0<m by omega)]
  simp only [zcR,pure_bind,zbW (show 0<=1+u by omega) (show 1+u<1000 by omega),zcf,zay (show (1+u).toNat<=1000 by omega),eb,hl,zak,zah]
  generalize hy:((List.range (1+u).toNat).map fun (k:Nat)=>(first+step*(k:Int)) % m)=ys
  have yl:ys.length=(1+u).toNat:=by rw [<- hy];simp
  have ym: ∀ y∈ys,0<=y/\y<m:=fun y h=>by
   rw [<- hy] at h
   obtain ⟨k,_,rfl⟩:=qaU.mp h
   exact ⟨Int.emod_nonneg _ (by omega),Int.emod_lt_of_pos _ (by omega)⟩
  simp only [zgq (show ys.length<64 by omega),zak,zgv,zeV,pure_bind,zah]
  refine k _ _ (zbp.mpr ⟨zm7 ys,fun x hx=>ym x (zhK.mp hx)⟩) (fun z=> ?_) (((x2.trans x3).trans x4).trans x5)
  have z':=List.map_eq_nil_iff.mp z
  have hy0: ∃ y,y∈ys:=List.exists_mem_of_length_pos (by omega)
  obtain ⟨y,hy0⟩:=hy0
  have:=zhK.mpr hy0
  rw [z'] at this
  cases this
def Row (m:Int) (h:Hh) (d:D):Prop:= ∃ (n:Nat) (xs:List Int) (p:Int),d= .cel n/\h[n]? = some (.lst [.tup (xs.map D.int),.int p])/\zdj m 0 (xs.map D.int)=true/\xs≠[]/\(0<p/\p<2^64)
theorem Row.ext {m:Int} {b:Nat} {h h':Hh} {d:D} (q:Bx b h) (x:Ext b h h') (r:Row m h d):Row m h' d:=by
 obtain ⟨n,ts,p,e,e2,r⟩:=r
 have hn:n≠b:=fun z=>by
  subst z
  obtain ⟨y,e3⟩:=q
  rw [e3] at e2
  cases e2
 exact ⟨n,ts,p,e,x.2 n _ hn e2,r⟩
theorem zkE {b:Nat} {m far:Int} (m0:1<=m) (m1:m<=10) (f0:0<far) (f1:far<2^64): ∀ (ds:List D) {h:Hh} {P:List D->Hh->Prop},Bx b h->(∀ rs h',Ext b h h'->rs.length=ds.length->(∀ r∈rs,Row m h' r)->P rs h')->
  wp (zbo (zaY (za1 0) (fun _=>pure true) zca [none,some (.cel b),some (.int m),some (.int far)]) ds) h P
 | [],h,P,q,k=>by
  rw [zbo,zak]
  exact k [] h (Ext.refl q) rfl fun r hr=>by cases hr
 | d::r,h,P,q,k=>by
  rw [zbo]
  simp only [zah,zaY,zdp,List.set,pure_bind,if_true,zca,zfn,zaK,za0,zbg,zaJ,zaB,bind_assoc,zbi]
  refine zkI q m0 m1 fun ts h2 hr hne x2=> ?_
  simp only [zah,zbX,ze6,zbg,zaK,za0,zaJ,zaB,pure_bind,bind_assoc,zbi]
  refine zaA x2.1 f0 f1 fun t h3 t0 t1 x3=> ?_
  simp only [zcR,pure_bind,zak,zah,qaE,qaJ,zay (show 0+1+1<=1000 by decide),zhN]
  have x4:=x3.1.push (c:= .lst [.tup ts,.int (1+t)])
  obtain ⟨xs,rfl⟩:=zeq (zfr hr)
  refine zkE m0 m1 f0 f1 r x4.1 fun rs h' x5 hl hr'=> ?_
  refine k (.cel h3.length::rs) h' (((x2.trans x3).trans x4).trans x5) (by simp [hl]) fun y hy=> ?_
  rcases qaP.mp hy with rfl | hy
  ·exact Row.ext x4.1 x5 ⟨h3.length,xs,1+t,rfl,by simp,hr,fun z=>hne (by rw [z];rfl),⟨by omega,by omega⟩⟩
  ·exact hr' y hy
noncomputable def zmE (h:Hh) (i:Int) (d:D):Bool:=match d with
 | .cel n=>match h[n]? with
  | some (.lst (.tup ts::_))=>match zci ts with
   | some xs=>xs.any (· == i)
   | none=>false
  | _=>false
 | _=>false
noncomputable def zim (h:Hh) (d:D):D:=match d with
 | .cel n=>match h[n]? with
  | some (.lst ds)=> .tup ds
  | _=> .non
 | _=> .non
theorem zmF {m:Int} {h:Hh}: ∀ {rs:List D},(∀ r∈rs,Row m h r)-> ∃ ps,ziK h rs=some ps/\PyData.canLayAll0 ps=true/\ps.length=rs.length
 | [],_=>⟨[],rfl,rfl,rfl⟩
 | d::r,hr=>by
  obtain ⟨n,xs,p,rfl,e,_⟩:=hr d qau
  obtain ⟨ps,e1,e2,e3⟩:=zmF fun y hy=>hr y (qan _ hy)
  refine ⟨.list [.tuple (xs.map .int),.int p]::ps,?_,?_,by simp [e3]⟩
  ·simp only [ziK,pdH,e,pdL,pd,zbm,Option.map,e1]
  ·simp [PyData.canLayAll0,PyData.canLay0,zaZ,e2]
theorem znT {m:Int} {h:Hh} {rs:List D} {P:D->Hh->Prop} (hr: ∀ r∈rs,Row m h r) (q:P (.bl rs.isEmpty) h):wp (zpG (.lst rs) (.lst [])) h P:=by
 obtain ⟨ps,e1,e2,e3⟩:=zmF hr
 refine ⟨.bl rs.isEmpty,h,?_,q⟩
 unfold zpG
 have a1:pdH h (.lst rs)=some (.list ps):=by simp only [pdH,e1,Option.map]
 have a2:pdH h (.lst [])=some (.list []):=by simp only [pdH,ziK,Option.map]
 rw [a1,a2]
 have c:zfv (.list ps) (.list [])=true:=by
  unfold zfv
  simp [PyData.canLay0,PyData.canLayAll0,e2,PyData.depth,PyData.depthAll]
 simp only [c,if_true]
 cases ps with
 | nil=>
  cases rs with
  | nil=>rfl
  | cons _ _=>cases e3
 | cons _ _=>
  cases rs with
  | nil=>cases e3
  | cons _ _=>rfl
def Cov (rows:List D) (h:Hh) (j:Int):Prop:= ∃ r∈rows, ∃ (n:Nat) (xs:List Int) (p:Int),r= .cel n/\h[n]? = some (.lst [.tup (xs.map D.int),.int p])/\j∈xs
theorem Cov.ext {b:Nat} {rows:List D} {h h':Hh} {j:Int} (q:Bx b h) (x:Ext b h h') (r:Cov rows h j):Cov rows h' j:=by
 obtain ⟨d,hd,n,ts,p,e,e2,r⟩:=r
 have hn:n≠b:=fun z=>by
  subst z
  obtain ⟨y,e3⟩:=q
  rw [e3] at e2
  cases e2
 exact ⟨d,hd,n,ts,p,e,x.2 n _ hn e2,r⟩
theorem zgn {b:Nat} {m far:Int} {s1 s2:Option D} {rows:List D} (m0:1<=m) (m1:m<=10) (hne:rows≠[]) (hl:rows.length<=12): ∀ (ds:List D) (dn:List Int) {h:Hh} {x6 x7:Option D} {P:Out->Hh->Prop},Bx b h->(∀ d∈ds, ∃ i:Int,d= .int i/\0<=i/\i<m)->(∀ r∈rows,Row m h r)->(∀ j∈dn,Cov rows h j)->
  (∀ x6' x7' h',Bx b h'->(∀ r∈rows,Row m h' r)->(∀ j,j∈dn\/D.int j∈ds->Cov rows h' j)->P (.nx [some (.cel b),s1,s2,some (.int m),some (.int far),some (.lst rows),x6',x7']) h')->
  wp (zbd (fun x sd=>do let sd1<-za1 6 x sd;zbc sd1) ds [some (.cel b),s1,s2,some (.int m),some (.int far),some (.lst rows),x6,x7]) h P
 | [],dn,h,x6,x7,P,q,_,hr,hc,k=>by
  rw [zd4,zak]
  exact k _ _ h q hr fun j hj=>hc j (hj.elim id fun z=>by cases z)
 | d::r,dn,h,x6,x7,P,q,hd,hr,hc,k=>by
  obtain ⟨i,rfl,i0,i1⟩:=hd _ qau
  have hd':=fun y hy=>hd y (qan _ hy)
  have ih: ∀ {h:Hh} {x6 x7:Option D},Bx b h->(∀ r∈rows,Row m h r)->(∀ j∈i::dn,Cov rows h j)->wp (zbd (fun x sd=>do let sd1<-za1 6 x sd;zbc sd1) r [some (.cel b),s1,s2,some (.int m),some (.int far),some (.lst rows),x6,x7]) h P:=fun q hr hc=>zgn m0 m1 hne hl r (i::dn) q hd' hr hc fun x6' x7' h' q' hr' hc'=>k x6' x7' h' q' hr' fun j hj=>hc' j (by
    rcases hj with hj | hj
    · exact .inl (qan _ hj)
    · rcases qaP.mp hj with z | z
      · cases z;exact .inl qau
      · exact .inr z)
  rw [zc1]
  generalize zbd (fun x sd=>do let sd1<-za1 6 x sd;zbc sd1) r=rest at ih ⊢
  simp only [zdp,List.set,pure_bind,zbc,zkL,zed,zah]
  refine ziB (k:=fun d=>if zmE h i d=true then some d else none) (ds:=rows) (by simp) (by omega) (fun x hx=> ?_) ?_
  ·obtain ⟨n,xs,p,rfl,e,_⟩:=hr x hx
   have eb:zal [none,some 6] [some (.cel b),s1,s2,some (.int m),some (.int far),some (.lst rows),some (.int i),x7]=[none,some (D.int i)]:=rfl
   rw [eb]
   simp only [zaY,zdp,List.set,pure_bind,zde,zed,zaJ,zaB,zbX,ze6,zlF,bind_assoc,zah,zbf e,zio,zdt,zak,zhE,zdd,zc7,zmE,e,zaP]
   rw [zi9]
   split
   ·simp_all [zak,zaB,zah]
   ·simp_all [zak]
  ·simp only [zhJ,za0,pure_bind,qaJ,zay (show 0<=1000 by decide),zah,zak]
   refine znT (m:=m) (fun y hy=> ?_) ?_
   ·obtain ⟨z,hz,ez⟩:=List.mem_filterMap.mp hy
    split at ez
    ·cases ez;exact hr _ hz
    ·cases ez
   simp only [zdd,zak]
   rw [zi9]
   split
   ·rename_i c
    have none_has: ∀ y∈rows,zmE h i y=false:=fun y hy=>by
     cases z:zmE h i y with
     | false=>rfl
     | true=>
      have:y∈rows.filterMap fun d=>if zmE h i d=true then some d else none:=List.mem_filterMap.mpr ⟨y,hy,by rw [z];rfl⟩
      rw [List.isEmpty_iff.mp c] at this
      cases this
    have hpos:0<rows.length:=List.length_pos_iff.mpr hne
    simp only [za5,zcB,zbX,zaJ,zaB,pure_bind,bind_assoc,zbg,zaK,za0,zmx,zbi,zah]
    refine zaA q (by omega) (by omega) fun t h2 t0 t1 x2=> ?_
    have ht:t.toNat<rows.length:=by omega
    have ea:atI rows t=some rows[t.toNat]:=by
     have:=zfe (xs:=rows) (j:=t.toNat) (v:=rows[t.toNat]) (by simp [ht])
     rw [<- this]
     congr 1
     omega
    have hrow:=hr rows[t.toNat] (List.getElem_mem ht)
    have hno:=none_has rows[t.toNat] (List.getElem_mem ht)
    have hmem:rows[t.toNat]∈rows:=List.getElem_mem ht
    generalize rows[t.toNat]=row at ea hrow hno hmem
    obtain ⟨n,xs,p,rfl,e,hrs,hx0,hp0⟩:=hrow
    have hni:i∉xs:=fun z=>by
     simp only [zmE,e,zaP] at hno
     have:xs.any (· == i)=true:=List.any_eq_true.mpr ⟨i,z,by simp⟩
     rw [this] at hno
     cases hno
    have hnb:n≠b:=fun z=>by
     subst z
     obtain ⟨y,e3⟩:=q
     rw [e3] at e
     cases e
    have e2:=x2.2 n _ hnb e
    obtain ⟨hpw,hbd⟩:=zbp.mp hrs
    have hxl:(xs.length:Int)<=m:=by have:=zd2 hrs (by omega);simpa using this
    have esn:((xs.map D.int)++[D.int i])=(xs++[i]).map D.int:=by simp
    simp only [zki,ea,zdt,zak,zgJ,List.set,zhY,zbg,zaK,za0,zbX,zaJ,zaB,ze6,pure_bind,bind_assoc,zlF,zah,zbf e2,zio,zfY,qaE,qaJ,zay (show 0+1<=1000 by decide),zmr,qaH,
      zay (show xs.length+(0+1)<=1000 by omega),esn,zeX (show (xs++[i]).length<64 by simp;omega),zgv,zj6,zmn]
    have e3:ixN (0+1+1) 0=some 0:=rfl
    simp only [zah,zbf e2,qaE,qaJ,e3,zdt,zak,zgC,List.set]
    have hlt:n<h2.length:=(qac.mp e2).1
    refine ih ?_ ?_ ?_
    ·obtain ⟨y,ey⟩:=x2.1
     exact ⟨y,by rw [qao hnb];exact ey⟩
    ·intro y hy
     obtain ⟨n',xs',p',rfl,e',r1,r2,r3⟩:=Row.ext q x2 (hr y hy)
     by_cases hnn:n'=n
     ·subst hnn
      refine ⟨n',zba (xs++[i]),p,rfl,qai hlt,zbp.mpr ⟨zoa hpw hni,fun z hz=> ?_⟩,fun z=> ?_,hp0⟩
      ·have:=(zat (xs++[i])).mem_iff.mp hz
       rcases qaK.mp this with w | w
       ·exact hbd z w
       ·simp at w;omega
      ·have:=(zat (xs++[i])).length_eq
       rw [z] at this
       simp at this
     ·exact ⟨n',xs',p',rfl,by rw [qao (Ne.symm hnn)];exact e',r1,r2,r3⟩
    ·intro j hj
     rcases qaP.mp hj with rfl | hj
     ·exact ⟨.cel n,hmem,n,zba (xs++[j]),p,rfl,qai hlt,(zat (xs++[j])).mem_iff.mpr (by simp)⟩
     ·obtain ⟨y,hy,n',xs',p',rfl,e',hj'⟩:=Cov.ext q x2 (hc j hj)
      by_cases hnn:n'=n
      ·subst hnn
       rw [e2] at e'
       have exs:xs=xs':=by
        have z:xs.map D.int=xs'.map D.int:=by injection (Option.some.inj e') with z;simpa using (List.cons.inj z).1
        exact (List.map_inj_right fun a b h=>by injection h).mp z
       subst exs
       exact ⟨_,hy,n',zba (xs++[i]),p,rfl,qai hlt,(zat (xs++[i])).mem_iff.mpr (List.mem_append_left _ hj')⟩
      ·exact ⟨_,hy,n',xs',p',rfl,by rw [qao (Ne.symm hnn)];exact e',hj'⟩
   ·rename_i c
    simp only [zge,zak]
    refine ih q hr fun j hj=> ?_
    rcases qaP.mp hj with rfl | hj
    ·obtain ⟨y,hy⟩:=List.exists_mem_of_ne_nil (rows.filterMap fun d=>if zmE h j d=true then some d else none) (fun z=>c (by rw [z];rfl))
     obtain ⟨z,hz,ez⟩:=List.mem_filterMap.mp hy
     split at ez
     ·rename_i c2
      obtain ⟨n,xs,p,rfl,e,_⟩:=hr z hz
      simp only [zmE,e,zaP] at c2
      obtain ⟨k,hk,ek⟩:=List.any_eq_true.mp c2
      exact ⟨_,hz,n,xs,p,rfl,e,(show k=j by simpa using ek)▸hk⟩
     ·cases ez
    ·exact hc j hj
theorem znY {h:Hh} {b:Nat} {lots:Int} {P:D->Hh->Prop} (z0:1<=lots) (z1:lots<=12) (q:Bx b h) (k: ∀ (m:Int) (os:List D) h',Bx b h'->1<=m->m<=10->1<=os.length->os.length<=12->(∀ o∈os,zfR m o=true)->(∀ i:Int,0<=i->i<m-> ∃ o∈os, ∃ (xs:List Int) (p:Int),o= .tup [.tup (xs.map D.int),.int p]/\i∈xs)->P (.tup [.int m,.tup os]) h'):wp (F_27 [.cel b,.int 10,.int lots]) h P:=by
 rw [d_27]
 simp only [G_27,za5,zcB,zbX,ze6,zbg,zaK,za0,zaB,zaJ,pure_bind,bind_assoc,zbi,zah]
 refine zaA q (by decide) (by decide) fun t h2 t0 t1 x2=> ?_
 simp only [zcR,pure_bind,zak,zgJ,List.set,za5,zcB,zbX,zhJ,zaK,za0,ze6,zi8,bind_assoc,zah,qaE,qaJ,zay (show 0+1+1+1+1<=1000 by decide),zbg,zaB,zaJ,zbi]
 refine zaA x2.1 (by decide) (by decide) fun f h3 f0 f1 x3=> ?_
 obtain ⟨far,ef,g0,g1⟩: ∃ far:Int,atI [D.int 3,.int 9,.int 50,.int 1000000000000] f=some (.int far)/\0<far/\far<2^64:=by
  have:f=0\/f=1\/f=2\/f=3:=by omega
  rcases this with rfl | rfl | rfl | rfl
  ·exact ⟨3,rfl,by decide,by decide⟩
  ·exact ⟨9,rfl,by decide,by decide⟩
  ·exact ⟨50,rfl,by decide,by decide⟩
  ·exact ⟨1000000000000,rfl,by decide,by decide⟩
 simp only [zki,ef,zdt,zak,zgJ,List.set,za5,zcB,zah]
 unfold zaI
 simp only [zfT,zaK,za0,zbX,ze6,zbg,zaB,zaJ,pure_bind,bind_assoc,zbi,zah]
 refine zaA x3.1 (by omega) (by omega) fun u h4 u0 u1 x4=> ?_
 have eb:zal [none,some 0,some 3,some 4] [some (.cel b),some (.int 10),some (.int lots),some (.int (1+t)),some (.int far),none,none,none]=[none,some (D.cel b),some (.int (1+t)),some (.int far)]:=rfl
 simp only [zcR,pure_bind,zbW (show 0<=1+u by omega) (show 1+u<1000 by omega),zcf,zay (show (1+u).toNat<=1000 by omega),eb,zah,zak]
 refine zkE (by omega) (by omega) g0 g1 _ x4.1 fun rows h5 x5 hl hr=> ?_
 rw [zcf] at hl
 simp only [zak,zgJ,List.set,za5,zka,zfT,zaK,za0,zaJ,zaB,pure_bind,zbW (show 0<=1+t by omega) (show 1+t<1000 by omega),zah]
 refine zgn (by omega) (by omega) (fun z=>by rw [z] at hl;simp at hl;omega) (by omega) _ [] x5.1 (fun d hd=> ?_) hr (fun j hj=>by cases hj) fun x6 x7 h6 q6 hr6 hc6=> ?_
 ·obtain ⟨i,e,i0,i1⟩:=zfE hd
  exact ⟨i,e,i0,by omega⟩
 simp only [zgJ,zcu,zfY,zaK,za0,zaJ,zaB,pure_bind,bind_assoc,zbg,zah]
 have eb6:zal [none] [some (.cel b),some (.int 10),some (.int lots),some (.int (1+t)),some (.int far),some (.lst rows),x6,x7]=[none]:=rfl
 simp only [zqx,zaJ,zaB,pure_bind,zqP,zak,zay (show rows.length<=1000 by omega),eb6]
 refine zdw (k:=fun d=>some (zim h6 d)) (fun x hx=> ?_) ?_
 ·obtain ⟨n,xs,p,rfl,e,_⟩:=hr6 x hx
  simp only [zaY,zdp,List.set,pure_bind,if_true,zda,zfY,zaK,za0,zbX,zaB,ze6,zlF,bind_assoc,zah,zbf e,zio,zpM,zdt,zak,qaE,qaJ,zay (show 0+1+1<=1000 by decide),zim,e]
  exact ⟨trivial,trivial⟩
 ·simp only [zgv,zak,pure_bind,qaE,qaJ,zay (show 0+1+1<=1000 by decide),zeV,zah]
  have em:(rows.filterMap fun d=>some (zim h6 d))=rows.map (zim h6):=by simp
  rw [em]
  refine k (1+t) _ h6 q6 (by omega) (by omega) (by simp;omega) (by simp;omega) (fun o ho=> ?_) fun i i0 i1=> ?_
  rotate_left
  ·obtain ⟨r,hr',n,xs,p,rfl,e,hi⟩:=hc6 i (.inr (by rw [zbL,qaU];exact ⟨i,qaU.mpr ⟨i.toNat,List.mem_range.mpr (by omega),by omega⟩,rfl⟩))
   exact ⟨_,qaU.mpr ⟨_,hr',rfl⟩,xs,p,by simp only [zim,e],hi⟩
  obtain ⟨r,hr',rfl⟩:=qaU.mp ho
  obtain ⟨n,xs,p,rfl,e,r1,r2,r3⟩:=hr6 r hr'
  have hx:0<(xs.length:Int):=by
   have:=List.length_pos_iff.mpr r2
   omega
  simp only [zim,e,zfR,r1,qaH]
  simp [hx,r3]
  exact ⟨List.length_pos_iff.mpr r2,r3.2⟩
theorem zj7 {m:Int} {o:D} (h:zfR m o=true): ∃ (xs:List Int) (p:Int),o=zcj (xs,p)/\(xs.Pairwise (· < ·)/\ ∀ x∈xs,0<=x/\x<m)/\xs≠[]/\(0<p/\p<2^64):=by
 unfold zfR at h
 split at h
 ·rename_i ts p
  simp only [qaG,qaD] at h
  obtain ⟨⟨h1,h2⟩,h3⟩:=h
  obtain ⟨xs,rfl⟩:=zeq (zfr h1)
  exact ⟨xs,p,rfl,zbp.mp h1,fun z=>by rw [z] at h2;simp at h2,h3⟩
 ·cases h
theorem zmI {m:Int} (m0:1<=m) (m1:m<=10): ∀ {ds:List D},ds.length<=12->(∀ o∈ds,zfR m o=true)-> ∃ os,ds=os.map zcj/\Stk m os/\ ∀ o∈os,o.2<2^64
 | [],_,_=>⟨[],rfl,⟨m0,m1,by simp,by simp,by simp,by simp,by simp⟩,by simp⟩
 | d::r,hl,h=>by
  obtain ⟨os,e,s,hP⟩:=zmI m0 m1 (ds:=r) (by simp at hl;omega) fun o ho=>h o (qan _ ho)
  obtain ⟨xs,p,e1,⟨h1,h2⟩,h3,h4,h5⟩:=zj7 (h d qau)
  have hlen:((xs,p)::os).length<=12:=by rw [e] at hl;simpa using hl
  refine ⟨(xs,p)::os,by rw [qaM,e,e1],⟨m0,m1,hlen,?_,?_,?_,?_⟩,fun o ho=>by
    rcases qaP.mp ho with rfl | ho
    · exact h5
    · exact hP o ho⟩
  ·intro o ho
   rcases qaP.mp ho with rfl | ho
   ·exact h1
   ·exact s.up o ho
  ·intro o ho
   rcases qaP.mp ho with rfl | ho
   ·exact h2
   ·exact s.bd o ho
  ·intro o ho
   rcases qaP.mp ho with rfl | ho
   ·exact h3
   ·exact s.ne o ho
  ·intro o ho
   rcases qaP.mp ho with rfl | ho
   ·exact h4
   ·exact s.pos o ho
theorem zqU:dIx (zbe m os) (.int 1)=pure (.tup (os.map zcj)):=rfl
theorem zpQ:dIx (zbe m os) (.int 0)=pure (.int m):=rfl
noncomputable def zqQ:List D:=[.non,.bl true,.int 7,.str "",.str "0",.tup [],.lst [],.dct,.tup [.int 1,.int 2],.tup [.int 0],.tup [.int 1,.int 0],.int (-1),.tup [.int 0,.int 1],.lst [.tup [.int 1,.int 0,.int 1]],.bl false,.tup [.tup [.int 0,.int 1]]]
theorem znw: ∀ d∈zqQ,gk d:=by
 have h:zqQ.all gkB=true:=rfl
 intro d hd
 exact zp7 (List.all_eq_true.mp h d hd)
theorem zoQ {h:Hh} {b:Nat} {P:D->Hh->Prop} (q:Bx b h) (k: ∀ d h',gk d->Ext b h h'->P d h'):wp (F_24 [.cel b]) h P:=by
 rw [d_24]
 have e:G_24 [some (.cel b),none]=(do let t<-F_22 [.cel b,.int 16];let d<-dIx (.lst zqQ) t;pure (.rt d)):=by
  simp only [G_24]
  ac_nf0
  try simp only [zo4]
  try ac_nf0
  rfl
 rw [e]
 simp only [bind_assoc,zah]
 refine zaA q (by decide) (by decide) fun t h2 t0 t1 x2=> ?_
 obtain ⟨d,ed,hd⟩:=ziQ t0 (show t<(zqQ.length:Int) from t1)
 simp only [zki,ed,zdt,zak,zeV]
 exact k _ _ (znw d hd) x2
theorem zn7 {h:Hh} {b:Nat} {n:Int} {ys:List Int} {P:D->Hh->Prop} (q:Bx b h) (hy:ys.length<=12) (n0:0<=n) (n1:n<=12) (k: ∀ d h',gk d->Ext b h h'->P d h'):wp (F_28 [.cel b,tI ys,.int n]) h P:=by
 rw [d_28]
 simp only [G_28]
 ac_nf0
 refine zaA q (by omega) (by omega) fun t h2 t0 t1 x2=> ?_
 ac_nf0
 refine zaA x2.1 (by omega) (by omega) fun w h3 w0 w1 x3=> ?_
 ac_nf0
 refine zaA x3.1 (by omega) (by omega) fun v h4 v0 v1 x4=> ?_
 ac_nf0
 refine zgU v0 (by simpa using v1) fun what hwhat=> ?_
 have kw:kn what=true:=by
  simp only [qaP,qaF,or_false] at hwhat
  rcases hwhat with rfl | rfl | rfl | rfl | rfl | rfl | rfl | rfl<;>rfl
 clear hwhat
 have c1:=zft (ys.map D.int) none (some t)
 have c2:=zft (ys.map D.int) (some (t+1)) none
 have c3:=zft (ys.map D.int) none (some 1)
 have c4:=zft (ys.map D.int) (some t) none
 rw [qaH] at c1 c2 c3 c4
 have g1:=zay (show (L3.zeN (ys.map D.int) none (some t)).length+(L3.zeN (ys.map D.int) (some (t+1)) none).length<=1000 by omega)
 have g2:=zay (show ys.length+1<=1000 by omega)
 have g3:=zay (show ys.length+(L3.zeN (ys.map D.int) none (some 1)).length<=1000 by omega)
 have g4:=zay (show (L3.zeN (ys.map D.int) none (some t)).length+1<=1000 by omega)
 have g5:=zay (show (L3.zeN (ys.map D.int) none (some t)).length+((L3.zeN (ys.map D.int) (some t) none).length+1)<=1000 by omega)
 have g6:=zay (show (L3.zeN (ys.map D.int) none (some t)).length+((L3.zeN (ys.map D.int) (some (t+1)) none).length+1)<=1000 by omega)
 repeat (ac_nf0;simp only [g1,g2,g3,g4,g5,g6])
 ac_nf0
 refine zaA x4.1 (by split<;>omega) (by split<;>omega) fun u h5 u0 u1 x5=> ?_
 have eu:ys.map D.int++[D.int u]=(ys++[u]).map D.int:=by simp
 have ul:(zhj (ys++[u])).length<64:=by
  have e:(zhj (ys++[u])).length=((ys++[u]).foldl step_dedup []).length:=(zat _).length_eq
  have:=zeo (ys++[u])
  have e2:(ys++[u]).length=ys.length+1:=by simp
  omega
 rw [eu,zhe (by simp;omega)]
 ac_nf0
 refine zoQ x5.1 fun odd h6 go x6=> ?_
 ac_nf0
 refine zaA x6.1 (by decide) (by decide) fun v h7 v0 v1 x7=> ?_
 ac_nf0
 refine zgU v0 (by simpa using v1) fun d hd=> ?_
 ac_nf0
 refine k d h7 ?_ ((((x2.trans x3).trans x4).trans x5).trans (x6.trans x7))
 have ki: ∀ x∈ys.map D.int,kn x=true:=fun x hx=>by obtain ⟨i,_,rfl⟩:=qaU.mp hx;rfl
 have hl:(ys.map D.int).length<=12:=by rw [qaH];exact hy
 simp only [qaP,qaF,or_false] at hd
 rcases hd with rfl | rfl | rfl | rfl | rfl | rfl | rfl | rfl | rfl
 ·refine gkT (by rw [qav,qaE];omega) fun x hx=> ?_
  rcases qaK.mp hx with z | z
  ·exact ki x (zc4 z)
  ·rcases qaP.mp z with rfl | z
   ·exact kw
   ·exact ki x (zc4 z)
 ·exact gkT (by rw [qav];omega) fun x hx=>(qaK.mp hx).elim (fun z=>ki x (zc4 z)) fun z=>ki x (zc4 z)
 ·refine gkT (by rw [qav,qaE];omega) fun x hx=> ?_
  rcases qaK.mp hx with z | z
  ·exact ki x (zc4 z)
  ·rcases qaP.mp z with rfl | z
   ·exact kw
   ·exact ki x (zc4 z)
 ·exact gkT (by rw [List.length_reverse];omega) fun x hx=>ki x (List.mem_reverse.mp hx)
 ·exact zp7 rfl
 ·exact gkT (by rw [qav];omega) fun x hx=>(qaK.mp hx).elim (ki x) fun z=>ki x (zc4 z)
 ·exact zkl ul
 ·exact go
 ·exact gkT (by omega) ki
theorem znI:F_25 [.exn "NoThing"]=pure (.str "! thing"):=by
 funext h
 rfl
theorem zl0 {d:D} (k:kn d=true):F_12 [d]=pure (.bl (isI d)):=by
 rw [d_12]
 simp only [G_12,zcu,zjS,zlu,zaB,pure_bind,bind_assoc,zjs k,zmw k,zdd,zi6]
 cases d<;>simp [isI]
theorem zlv {sd:Sd} {ds:List D} {fi:FA} {E1:FE} (hE: ∀ x,kn x=true->E1 [some x]=pure (.bl (isI x))) (hi:fi sd=pure ds) (hl:ds.length<=1000) (hk: ∀ x∈ds,kn x=true):zaI fi (za1 0) (fun _=>pure true) E1 [none] sd=pure (.lst ((ds.map isI).map D.bl)):=by
 rw [zkd (ds:=ds) (k:=fun d=> .bl (isI d)) hi hl ?_]
 ·rw [qaT];rfl
 ·intro x hx
  rw [show zal [none] sd=[none] from rfl]
  simp only [zaY]
  ac_nf0
  rw [hE x (hk x hx)]
  ac_nf0
theorem znH {d:D} (h:isT d=false):zg2 m d=false:=by
 cases d<;>first | rfl | cases h
theorem zhZ {G:FS} {E1:FE} (hG:G=zaw (sIf (tOr (zfO (zgM (cUn (zeK "tuple") (zag 1)))) (zfO (zgM (zaz zkP (zab (zaI (iSq (zag 1)) (za1 0) (fun _=>pure true) E1 [none]) zan))))) (zbY (cK (.bl false))) zfN) (zbY (cOp dEq (zaz zcy (zab (zag 1) zan)) (cUn zdh (cOp dIx (zag 0) (cK (.int 0)))))))
  (hE: ∀ x,kn x=true->E1 [some x]=pure (.bl (isI x))) (m0:1<=m) (m1:m<=10) {d:D} (g:gk d):G [some (zbe m os),some d]=pure (.rt (.bl (zg2 m d))):=by
 subst hG
 ac_nf0
 rw [zmf g.1]
 ac_nf0
 cases ht:isT d with
 | false=>
  rw [znH ht]
  ac_nf0
 | true=>
  obtain ⟨ds,rfl⟩: ∃ ds,d= .tup ds:=by cases d<;>first | exact ⟨_,rfl⟩ | cases ht
  obtain ⟨hl,hk⟩:=g.2 ds rfl
  have ec:zaI (iSq (zag 1)) (za1 0) (fun _=>pure true) E1 [none] [some (zbe m os),some (.tup ds)]=pure (.lst ((ds.map isI).map D.bl)):=zlv hE (by ac_nf0) (by omega) hk
  ac_nf0
  rw [ec]
  ac_nf0
  rw [zfz]
  ac_nf0
  have ea:(ds.map isI).all id=ds.all isI:=by rw [List.all_map];rfl
  rw [ea]
  cases ha:ds.all isI with
  | false=>
   have:zg2 m (.tup ds)=false:=by simp only [zg2,ha,Bool.false_and]
   rw [this]
   ac_nf0
  | true=>
   obtain ⟨xs,rfl⟩:=zeq ha
   rw [qaH] at hl
   have ep:zg2 m (.tup (xs.map D.int))=(zba xs==rgI m.toNat):=by simp only [zg2,ha,zaP,Bool.true_and]
   ac_nf0
   rw [zeX hl]
   ac_nf0
   rw [zpQ]
   ac_nf0
   rw [zgS (by omega) (by omega)]
   ac_nf0
   rw [znX,ep]
   ac_nf0
theorem zfg (m0:1<=m) (m1:m<=10) {d:D} (g:gk d):F_18 [zbe m os,d]=pure (.bl (zg2 m d)):=by
 rw [d_18,zhZ (G:=G_18) (E1:=zcx) rfl (fun x k=>by simp only [zcx];ac_nf0;exact zl0 k) m0 m1 g]
 rfl
theorem zkc (m0:1<=m) (m1:m<=10) {d:D} (g:gk d):F_32 [zbe m os,d]=pure (.bl (zg2 m d)):=by
 rw [d_32,zhZ (G:=G_32) (E1:=zbj) rfl (fun x k=>by simp only [zbj];ac_nf0;exact zkg k) m0 m1 g]
 rfl
theorem ziw {xs:List Int} (h:xs≠[]):F_17 [tI xs]=pure (.bl (zl9 xs)):=by
 rw [d_17]
 simp only [G_17]
 ac_nf0
 rw [zjU h,zjJ h]
 ac_nf0
 rw [zoS]
 ac_nf0
 rfl
noncomputable def zos (os:List (List Int×Int)):Bool:=os.all fun o=>zl9 o.1
theorem zhm (s:Stk m os):F_14 [zbe m os]=pure (.bl (zos os)):=by
 have hl:=s.len
 rw [d_14]
 simp only [G_14]
 have ec:zaI (iSq (cOp dIx (zag 0) (cK (.int 1)))) (za1 0) (fun _=>pure true) zdA [none] [some (zbe m os)]=pure (.lst ((os.map fun o=>zl9 o.1).map D.bl)):=by
  rw [zb9 (g':=zcj) (xs:=os) (k:=fun o=>some (.bl (zl9 o.1))) (by ac_nf0;rw [zqU];ac_nf0) (by omega) fun o ho=> ?_]
  ·congr 2
   rw [qaT]
   exact congrFun List.filterMap_eq_map' os
  ·rw [show zal [none] [some (zbe m os)]=[none] from rfl]
   simp only [zaY,zdA]
   ac_nf0
   have:=ziw (s.ne o ho)
   unfold tI at this
   rw [this]
   ac_nf0
 ac_nf0
 rw [ec]
 ac_nf0
 rw [zfz]
 ac_nf0
 rw [List.all_map]
 rfl
theorem zgA (s:Stk m os):F_34 [zbe m os]=pure (.bl (zos os)):=by
 have hl:=s.len
 have m1:=s.m1
 rw [d_34]
 simp only [G_34]
 have ec:zaI (iSq (cOp dIx (zag 0) (cK (.int 1)))) (zcV 2 (zaR (za1 0) (zaR (za1 1) zc3))) (fun _=>pure true) zbI [none,none] [some (zbe m os)]=pure (.lst ((os.map fun o=>zl9 o.1).map D.bl)):=by
  rw [zb9 (g':=zcj) (xs:=os) (k:=fun o=>some (.bl (zl9 o.1))) (by ac_nf0;rw [zqU];ac_nf0) (by omega) fun o ho=> ?_]
  ·congr 2
   rw [qaT]
   exact congrFun List.filterMap_eq_map' os
  ·rw [show zal [none,none] [some (zbe m os)]=[none,none] from rfl]
   have hne:=s.ne o ho
   have hb:=s.bd o ho
   have h1:=hb _ (zku hne)
   have h2:=hb _ (zd9 hne)
   have h3:=(btw (s.up o ho) _ (zd9 hne)).1
   simp only [zaY,zbI]
   ac_nf0
   rw [zjU hne,zjJ hne]
   ac_nf0
   rw [zcX (by omega) (by omega) (by omega)]
   ac_nf0
   have:=zp9 o.1 ((List.range (zfZ o.1+1 - zfu o.1).toNat).map fun (k:Nat)=>zfu o.1+(k:Int))
   rw [zmX hne (s.up o ho)] at this
   unfold tI at this
   rw [this]
   ac_nf0
 ac_nf0
 rw [ec]
 ac_nf0
 rw [zfz]
 ac_nf0
 rw [List.all_map]
 rfl
noncomputable def zcS (ys:List Int) (os:List (List Int×Int)):List (List Int×Int):=os.map fun o=>(zie o.1 ys,o.2)
theorem zhf {o:List Int×Int} {ys:List Int} (hl:ys.length<=1000):F_13 [zcj o,tI ys]=pure (tI (zie o.1 ys)):=by
 rw [d_13]
 simp only [G_13]
 have ec:zaI (zpZ (zag 1)) (zcV 2 (zaR (za1 0) (zaR (za1 1) zc3))) zcq zct [none,none,some 0] [some (zcj o),some (tI ys)]=pure (.lst ((zie o.1 ys).map D.int)):=by
  rw [zb9 (g':=fun (i:Nat)=> .tup [.int i,(ys.map D.int).getD i .non]) (xs:=List.range ys.length) (k:=fun j=>if (o.1.any (· == ys.getD j 0))=true then some (.int (j:Int)) else none) (by
    show (pure (zkQ (ys.map D.int)):M (List D))=_
    unfold zkQ
    rw [qaH]) (by rw [List.length_range];exact hl) fun j hj=> ?_]
  ·congr 2
   unfold zie
   generalize List.range ys.length=l
   induction l with
   | nil=>rfl
   | cons j r ih=>
    rw [qat,List.filter_cons]
    split<;>rename_i h
    ·split at h<;>simp_all
    ·split at h<;>simp_all
  ·have hj:=List.mem_range.mp hj
   have e:(ys.map D.int).getD j .non= .int (ys.getD j 0):=by simp [List.getD,hj]
   rw [show zal [none,none,some 0] [some (zcj o),some (tI ys)]=[none,none,some (zcj o)] from rfl,e]
   simp only [zaY,zcq,zct]
   ac_nf0
   rw [zhE]
   ac_nf0
   split<;>rfl
 ac_nf0
 simp only [zcj,tI] at ec
 rw [ec]
 ac_nf0
theorem zjn (s:Stk m os) {ys:List Int} (hl:ys.length<=1000):F_19 [zbe m os,tI ys]=pure (zbe m (zcS ys os)):=by
 have ol:=s.len
 rw [d_19]
 simp only [G_19]
 have ec:zaI (iSq (cOp dIx (zag 0) (cK (.int 1)))) (za1 0) (fun _=>pure true) zcT [none,some 1] [some (zbe m os),some (tI ys)]=pure (.lst ((zcS ys os).map zcj)):=by
  rw [zb9 (g':=zcj) (xs:=os) (k:=fun o=>some (zcj (zie o.1 ys,o.2))) (by ac_nf0;rw [zqU];ac_nf0) (by omega) fun o ho=> ?_]
  ·congr 2
   unfold zcS
   rw [qaT]
   exact congrFun List.filterMap_eq_map' os
  ·rw [show zal [none,some 1] [some (zbe m os),some (tI ys)]=[none,some (tI ys)] from rfl]
   have:=zhf (o:=o) hl
   simp only [zaY,zcT]
   ac_nf0
   simp only [zcj,tI] at this
   rw [this]
   ac_nf0
 ac_nf0
 rw [zpQ]
 unfold tI at ec
 ac_nf0
 rw [ec]
 ac_nf0
 rfl
structure Ord (m:Int) (ys:List Int):Prop where
 perm:ys.Perm (rgI m.toNat)
theorem Ord.nd {ys:List Int} (h:Ord m ys):ys.Nodup:=h.perm.nodup_iff.mpr ((zcr _).imp fun z=>by omega)
theorem Ord.len {ys:List Int} (h:Ord m ys):ys.length=m.toNat:=by rw [h.perm.length_eq];simp [rgI]
theorem Ord.mem {ys:List Int} (h:Ord m ys) {x:Int} (h0:0<=x) (h1:x<m):x∈ys:=h.perm.mem_iff.mpr (qaU.mpr ⟨x.toNat,List.mem_range.mpr (by omega),by omega⟩)
theorem Ord.bd {ys:List Int} (h:Ord m ys): ∀ x∈ys,0<=x/\x<m:=fun x hx=>by
 obtain ⟨k,hk,rfl⟩:=qaU.mp (h.perm.mem_iff.mp hx)
 have:=List.mem_range.mp hk
 omega
theorem zfy (s:Stk m os) {ys:List Int} (h:Ord m ys):Stk m (zcS ys os):=by
 have m0:=s.m0
 have hl:=h.len
 refine ⟨s.m0,s.m1,by unfold zcS;rw [qaH];exact s.len,?_,?_,?_,?_⟩
 ·intro o ho
  obtain ⟨o,ho',rfl⟩:=qaU.mp ho
  exact zl5 _ _
 ·intro o ho x hx
  obtain ⟨o,ho',rfl⟩:=qaU.mp ho
  obtain ⟨j,hj,_,rfl⟩:=zgP.mp hx
  omega
 ·intro o ho
  obtain ⟨o,ho',rfl⟩:=qaU.mp ho
  obtain ⟨x,hx⟩:=List.exists_mem_of_ne_nil _ (s.ne o ho')
  have hb:=s.bd o ho' x hx
  have hm:=h.mem hb.1 hb.2
  intro z
  have:((zd7 ys x:Nat):Int)∈zie o.1 ys:=zgP.mpr ⟨_,zdc hm,by rw [zdO (zdc hm)];exact hx,rfl⟩
  rw [show zie o.1 ys=[] from z] at this
  cases this
 ·intro o ho
  obtain ⟨o,ho',rfl⟩:=qaU.mp ho
  exact s.pos o ho'
theorem zhw (s:Stk m os) {ys:List Int} (h:Ord m ys):Ev (F_33 [zbe m os,tI ys]) (zbe m (zcS ys os)):=by
 have ol:=s.len
 have yl:=h.len
 have m1:=s.m1
 refine .of_wp fun h0=> ?_
 rw [d_33]
 simp only [G_33]
 have e1:zaI (zpZ (zag 1)) (zcV 2 (zaR (za1 0) (zaR (za1 1) zc3))) (fun _=>pure true) zch [none,none] [some (zbe m os),some (tI ys),none]=pure (.lst ((List.range ys.length).map fun (j:Nat)=>D.tup [.int ((ys.getD j 0,D.int (j:Int)):Int×D).1,((ys.getD j 0,D.int (j:Int)):Int×D).2])):=by
  rw [zb9 (g':=fun (i:Nat)=> .tup [.int i,(ys.map D.int).getD i .non]) (xs:=List.range ys.length) (k:=fun j=>some (D.tup [.int (ys.getD j 0),.int (j:Int)])) (by
    show (pure (zkQ (ys.map D.int)):M (List D))=_
    unfold zkQ
    rw [qaH]) (by rw [List.length_range];omega) fun j hj=> ?_]
  ·congr 2
   exact congrFun List.filterMap_eq_map' _
  ·have hj:=List.mem_range.mp hj
   have e:(ys.map D.int).getD j .non= .int (ys.getD j 0):=by simp [List.getD,hj]
   rw [show zal [none,none] [some (zbe m os),some (tI ys),none]=[none,none] from rfl,e]
   simp only [zaY,zch]
   ac_nf0
 have e2:=zk9 (zkF (f:=fun j=>(ys.getD j 0,D.int (j:Int))) (List.range ys.length))
 have e3:zeT ((List.range ys.length).map fun j=>(ys.getD j 0,D.int (j:Int)))=zeT (plc ys):=rfl
 rw [e3] at e2
 have hdic: ∀ x∈ys,zdG (zeT (plc ys)) x=some (.int (zd7 ys x:Int)):=fun x hx=>znU h.nd hx
 generalize zeT (plc ys)=kvs at e2 hdic
 simp only [tI] at e1
 ac_nf0
 rw [e1,zak]
 rw [e2]
 refine zjz ?_
 have ed:(h0++[C.dic kvs])[h0.length]? = some (.dic kvs):=by simp
 have gr:Gro h0 (h0++[C.dic kvs]):=⟨_,rfl⟩
 generalize h0++[C.dic kvs]=h1 at ed gr
 generalize h0.length=c at ed
 ac_nf0
 rw [zpQ]
 ac_nf0
 unfold zaI
 ac_nf0
 rw [zqU]
 ac_nf0
 rw [zay (show os.length<=1000 by omega)]
 ac_nf0
 rw [show zal [none,none,some 2] [some (zbe m os),some (D.tup (ys.map D.int)),some (.cel c)]=[none,none,some (.cel c)] from rfl]
 refine zmY (g':=zcj) (k:=fun o=>some (zcj (zie o.1 ys,o.2))) (fun o ho=> ?_) ?_
 ·simp only [zaY,zc8]
  have hb:=s.bd o ho
  have hy: ∀ x∈o.1,x∈ys:=fun x hx=>h.mem (hb x hx).1 (hb x hx).2
  have hn:=s.olen o ho
  have nd:o.1.Nodup:=(s.up o ho).imp fun z=>by omega
  ac_nf0
  unfold zaI
  ac_nf0
  rw [zay (show o.1.length<=1000 by omega)]
  ac_nf0
  rw [show zal [none,some 2] [some (D.tup (o.1.map D.int)),some (D.int o.2),some (D.cel c)]=[none,some (.cel c)] from rfl]
  refine zmY (g':=D.int) (k:=fun x=>some (.int (zd7 ys x:Int))) (fun x hx=> ?_) ?_
  ·simp only [zaY,zdl]
   ac_nf0
   refine zkZ ed (hdic x (hy x hx)) ?_
   exact ⟨rfl,rfl⟩
  ·have e4:(o.1.filterMap fun x=>some (D.int (zd7 ys x:Int)))=(o.1.map fun x=>(zd7 ys x:Int)).map D.int:=by
    rw [qaT]
    exact congrFun List.filterMap_eq_map' _
   rw [e4]
   ac_nf0
   rw [zg6 (by rw [qaH];omega),zk7 nd h.nd hy]
   ac_nf0
   trivial
 ·have e5:(os.filterMap fun o=>some (zcj (zie o.1 ys,o.2)))=(zcS ys os).map zcj:=by
   unfold zcS
   rw [qaT]
   exact congrFun List.filterMap_eq_map' _
  rw [e5]
  ac_nf0
  exact ⟨gr,rfl⟩
noncomputable def zqX (os:List (List Int×Int)):D->Bool
 | .tup ds=>(match zci ds with | some ys=>zos (zcS ys os) | none=>false)
 | _=>false
theorem zle (s:Stk m os) {d:D} (g:gk d):F_15 [zbe m os,d]=pure (.bl (zg2 m d && zqX os d)):=by
 have m0:=s.m0
 have m1:=s.m1
 rw [d_15]
 simp only [G_15]
 ac_nf0
 rw [zfg m0 m1 g]
 ac_nf0
 cases hp:zg2 m d with
 | false=>
  ac_nf0
  rfl
 | true=>
  obtain ⟨ys,rfl,pm⟩:=zht hp
  have ho:Ord m ys:=⟨pm⟩
  have yl:=ho.len
  have e1:=zjn s (ys:=ys) (by omega)
  have e2:=zhm (zfy s ho)
  ac_nf0
  simp only [tI] at e1
  rw [e1]
  ac_nf0
  rw [e2]
  ac_nf0
  simp only [zqX,zaP,Bool.true_and]
theorem zkV (s:Stk m os) {d:D} (g:gk d) (hp:zg2 m d=false):F_31 [zbe m os,d]=pure (.str "! thing"):=by
 have m0:=s.m0
 have m1:=s.m1
 have e:F_16 [zbe m os,d]=zea "NoThing":=by
  rw [d_16]
  simp only [G_16]
  ac_nf0
  rw [zfg m0 m1 g,hp]
  ac_nf0
 rw [d_31]
 simp only [G_31]
 rw [ziI (c:="NoThing") (d:= .str "! thing") (by ac_nf0;rw [e];rfl) (by decide +kernel) znI]
 ac_nf0
theorem zj0 (s:Stk m os) {ys:List Int} (ho:Ord m ys):F_31 [zbe m os,tI ys]=pure (zbe m (zcS ys os)):=by
 have m0:=s.m0
 have m1:=s.m1
 have yl:=ho.len
 have g:gk (tI ys):=zkl (by omega)
 have e:F_16 [zbe m os,tI ys]=pure (zbe m (zcS ys os)):=by
  rw [d_16]
  simp only [G_16]
  have e1:=zfg (os:=os) m0 m1 g
  have e2:=zjn s (ys:=ys) (by omega)
  rw [zjf ho.perm] at e1
  simp only [tI] at e1 e2
  ac_nf0
  rw [e1]
  ac_nf0
  rw [e2]
  ac_nf0
 rw [d_31]
 simp only [G_31]
 rw [zkt (o:= .rt (zbe m (zcS ys os))) (by simp only [tI] at e;ac_nf0;rw [e];ac_nf0)]
 ac_nf0
theorem zoc {os:List (List Int×Int)}:zeK "tuple" (zbe m os)=pure (.bl true):=zmf (d:=zbe m os) rfl
theorem zlB (s:Stk m os) {d:D} (g:gk d):Ev (F_35 [zbe m os,d]) (.bl true):=by
 have m0:=s.m0
 have m1:=s.m1
 refine .of_wp fun h=> ?_
 rw [d_35]
 simp only [G_35]
 have e1:=zkc (os:=os) m0 m1 g
 have e2:=zle s g
 cases hp:zg2 m d with
 | false=>
  have e3:=zkV s g hp
  rw [hp] at e1 e2
  ac_nf0
  rw [e1]
  ac_nf0
  rw [e2]
  ac_nf0
  rw [e3]
  ac_nf0
  rw [show dIs (.bl (false && zqX os d)) (.bl false)=pure (.bl true) from rfl]
  ac_nf0
  rw [zmZ _ _ (by decide +kernel) (by decide +kernel)]
  ac_nf0
  exact ⟨rfl,.refl⟩
 | true=>
  obtain ⟨ys,rfl,pm⟩:=zht hp
  have ho:Ord m ys:=⟨pm⟩
  have e3:=zj0 s ho
  have e4:=zhw s ho
  have e5:=zgA (zfy s ho)
  have e6:F_15 [zbe m os,tI ys]=pure (.bl (zos (zcS ys os))):=by
   rw [e2,hp]
   simp only [zqX,tI,zaP,Bool.true_and]
  rw [hp] at e1
  simp only [tI] at e1 e3 e4 e6
  ac_nf0
  rw [e1]
  ac_nf0
  rw [e6]
  ac_nf0
  rw [e3]
  ac_nf0
  rw [zoc]
  ac_nf0
  refine e4.wp fun h1 g1=> ?_
  rw [zns]
  ac_nf0
  rw [show zeK "bool" (.bl (zos (zcS ys os)))=pure (.bl true) from rfl]
  ac_nf0
  refine e4.wp fun h2 g2=> ?_
  rw [e5]
  ac_nf0
  rw [zsw]
  ac_nf0
  exact ⟨by rw [beq_self_eq_true],g1.trans g2⟩
theorem zib {b c:Nat} (hbc:c≠b): ∀ (ds:List D) (lf:List Int) {h:Hh} {P:List D->Hh->Prop},Bx b h->h[c]? = some (.lst (lf.map D.int))->lf.length=ds.length->ds.length<=10->(∀ (ys:List Int) h',ys.Perm lf->Bx b h'->P (ys.map D.int) h')->
  wp (zbo (zaY (za1 0) (fun _=>pure true) zbV [none,some (.cel c),some (.cel b)]) ds) h P
 | [],lf,h,P,q,el,hl,h10,k=>by
  have:lf=[]:=List.length_eq_zero_iff.mp hl
  subst this
  rw [zbo,zak]
  exact k [] h (List.Perm.refl _) q
 | d::r,lf,h,P,q,el,hl,h10,k=>by
  rw [qaE] at hl h10
  rw [zbo,zah]
  simp only [zaY,zbV]
  ac_nf0
  simp only [zah,zbf el,zak]
  rw [zmK]
  simp only [zah,zbf el,zak,qaH]
  refine zaA q (by omega) (by omega) fun t h2 t0 t1 x2=> ?_
  have ht:t.toNat<lf.length:=by omega
  have el2:=x2.2 c _ hbc el
  refine zpg el2 t0 (by omega) (d:= .int lf[t.toNat]) (by simp [ht]) ?_
  have epp:=zk1 (xs:=lf) (i:=t.toNat) (x:=lf[t.toNat]) (by simp [ht])
  have hlen:(lf.eraseIdx t.toNat).length+1=lf.length:=by rw [List.length_eraseIdx_of_lt ht];omega
  have em:(lf.map D.int).eraseIdx t.toNat=(lf.eraseIdx t.toNat).map D.int:=by rw [List.eraseIdx_eq_take_drop_succ,List.eraseIdx_eq_take_drop_succ,List.map_append,List.map_take,List.map_drop]
  rw [em]
  refine zib hbc r (lf.eraseIdx t.toNat) (ziv x2.1 hbc) (zgl el2) (by omega) (by omega) fun ys h' pm q'=> ?_
  exact k (lf[t.toNat]::ys) h' ((pm.cons _).trans epp) q'
theorem zhV (m0:1<=m) (m1:m<=10) {b:Nat} {h:Hh} {P:D->Hh->Prop} (q:Bx b h) (k: ∀ (ys:List Int) h',Ord m ys->Bx b h'->P (tI ys) h'):wp (F_30 [.cel b,.int m]) h P:=by
 rw [d_30]
 simp only [G_30]
 ac_nf0
 rw [show zha (.int m)=zc2 ((rgI m.toNat).map D.int) from by
   show (if 0<=m/\m<1000 then _ else _)=_
   rw [qa4 ⟨by omega,by omega⟩,zbL]
   rfl]
 ac_nf0
 have hbc:=znv q
 have el:(h++[C.lst ((rgI m.toNat).map D.int)])[h.length]? = some (.lst ((rgI m.toNat).map D.int)):=by simp
 have q2:=(q.push (c:=C.lst ((rgI m.toNat).map D.int))).1
 generalize h++[C.lst ((rgI m.toNat).map D.int)]=h1 at el q2
 generalize h.length=c at el hbc
 unfold zaI
 ac_nf0
 rw [zbW (by omega) (by omega)]
 ac_nf0
 rw [zcf,zay (show m.toNat<=1000 by omega)]
 ac_nf0
 rw [show zal [none,some 2,some 0] [some (D.cel b),some (D.int m),some (D.cel c)]=[none,some (.cel c),some (.cel b)] from rfl]
 refine zib hbc _ (rgI m.toNat) q2 el (by rw [zcf];simp [rgI]) (by rw [zcf];omega) fun ys h' pm q'=> ?_
 ac_nf0
 exact k ys h' ⟨pm⟩ q'
theorem zkj (m0:1<=m) (m1:m<=10) {far:Int} (f0:0<far) (f1:far<2^64) {b c:Nat} (hbc:c≠b) (ho: ∀ o∈os,znJ m o) (hl:os.length<=11) {h:Hh} {s1 x6 x7 x8 x9 x10 x11 x12:Option D} {P:Out->Hh->Prop} (q:Bx b h) (e:h[c]? = some (.lst (os.map zcj))) (k: ∀ os' h',Stk m os'->Bx b h'->P (.rt (zbe m os')) h'):
  wp ((zaw (zgu (zpD (zag 5) (zaz (zaq 2 F_22) (zab (zag 0) (zab (cOp zbv (zaz zh9 (zab (zag 5) zan)) (cK (.int 1))) zan))) (zcZ (zab (cUn zdH (zag 3)) (zab (cOp zbv (cK (.int 1)) (zaz (zaq 2 F_22) (zab (zag 0) (zab (zag 4) zan)))) zan))))) (zbY (zcZ (zab (zag 3) (zab (zaz zbr (zab (cSl (cUn zpC (zag 5)) zdZ (zdX (zag 2))) zan)) zan))))) [some (.cel b),s1,some (.int 12),some (.int m),some (.int far),some (.cel c),x6,x7,x8,x9,x10,x11,x12]) h P:=by
 ac_nf0
 simp only [zah,zbf e,zak]
 rw [zmK]
 simp only [zah,zbf e,zak,qaH]
 ac_nf0
 refine zaA q (by omega) (by omega) fun t h2 t0 t1 x2=> ?_
 rw [zeY (by omega) (by omega)]
 ac_nf0
 refine zaA x2.1 f0 f1 fun u h3 u0 u1 x3=> ?_
 have e3:=x3.2 c _ hbc (x2.2 c _ hbc e)
 ac_nf0
 refine zja e3 t0 (by rw [qaH];omega) (by rw [qaH];omega) ?_
 ac_nf0
 refine zqe (zgl e3) ?_
 ac_nf0
 have hw:znJ m (rgI m.toNat,u+1):=by
  have:=zkG (m:=m) (i:=0) (j:=m) (p:=u+1) (by omega) (by omega) (by omega) (by omega)
  have er:rgA 0 m=rgI m.toNat:=by
   unfold rgA rgI
   rw [Int.sub_zero]
   exact List.map_congr_left fun k _=>by omega
  rw [er] at this
  exact this
 have em:(os.map zcj).take t.toNat++zcj (rgI m.toNat,u+1)::(os.map zcj).drop t.toNat=(os.take t.toNat++(rgI m.toNat,u+1)::os.drop t.toNat).map zcj:=by simp
 have hlen:(os.take t.toNat++(rgI m.toNat,u+1)::os.drop t.toNat).length=os.length+1:=by simp;omega
 have hall: ∀ o∈os.take t.toNat++(rgI m.toNat,u+1)::os.drop t.toNat,znJ m o:=fun o hx=>by
  rcases qaK.mp hx with z | z
  ·exact ho o (List.mem_of_mem_take z)
  ·rcases qaP.mp z with rfl | z
   ·exact hw
   ·exact ho o (List.mem_of_mem_drop z)
 have em':(os.map zcj).take t.toNat++D.tup [D.tup (((List.range m.toNat).map fun (k:Nat)=>(k:Int)).map D.int),D.int (u+1)]::(os.map zcj).drop t.toNat=(os.take t.toNat++(rgI m.toNat,u+1)::os.drop t.toNat).map zcj:=em
 rw [em',zlZ _ (by decide),List.take_of_length_le (by rw [qaH,hlen];show os.length+1<=12;omega)]
 exact k _ _ (zmB m0 m1 (by omega) hall) (ziv (ziv x3.1 hbc) hbc)
theorem rw_loop (m0:1<=m) (m1:m<=10) {far:Int} (f0:0<far) (f1:far<2^64) {b c:Nat} (hbc:c≠b) {s1 s2 s9 s10 s11 s12:Option D}: ∀ (ds:List D) (os:List (List Int×Int)) {h:Hh} {x6 x7 x8:Option D} {P:Out->Hh->Prop},Bx b h->h[c]? = some (.lst (os.map zcj))->(∀ o∈os,znJ m o)->os.length+ds.length<=100->
  (∀ (os':List (List Int×Int)) y6 y7 y8 h',os'.length=os.length+ds.length->(∀ o∈os',znJ m o)->Bx b h'->h'[c]? = some (.lst (os'.map zcj))->P (.nx [some (.cel b),s1,s2,some (.int m),some (.int far),some (.cel c),y6,y7,y8,s9,s10,s11,s12]) h')->
  wp (zbd (fun x sd=>do let sd1<-za1 6 x sd;zbl sd1) ds [some (.cel b),s1,s2,some (.int m),some (.int far),some (.cel c),x6,x7,x8,s9,s10,s11,s12]) h P
 | [],os,h,x6,x7,x8,P,q,e,ho,hl,k=>by
  rw [zd4,zak]
  exact k os _ _ _ h rfl ho q e
 | d::r,os,h,x6,x7,x8,P,q,e,ho,hl,k=>by
  rw [qaE] at hl
  have ih:=fun (os':List (List Int×Int)) (h':Hh) (x6 x7 x8:Option D)=>rw_loop m0 m1 f0 f1 hbc (s1:=s1) (s2:=s2) (s9:=s9) (s10:=s10) (s11:=s11) (s12:=s12) r os' (h:=h') (x6:=x6) (x7:=x7) (x8:=x8) (P:=P)
  rw [zc1]
  generalize zbd (fun x sd=>do let sd1<-za1 6 x sd;zbl sd1) r=rest at ih ⊢
  simp only [zbl]
  ac_nf0
  refine zaA q (by omega) (by omega) fun t h2 t0 t1 x2=> ?_
  ac_nf0
  refine zaA x2.1 (by decide) (by decide) fun w h3 w0 w1 x3=> ?_
  ac_nf0
  refine zgU w0 (by simpa using w1) fun v hv=> ?_
  obtain ⟨vi,rfl,v0,v1⟩: ∃ vi:Int,v= .int vi/\1<=vi/\vi<=10:=by
   simp only [qaP,qaF,or_false] at hv
   rcases hv with rfl | rfl | rfl
   ·exact ⟨2,rfl,by decide,by decide⟩
   ·exact ⟨4,rfl,by decide,by decide⟩
   ·exact ⟨m,rfl,m0,m1⟩
  ac_nf0
  refine zaA x3.1 (by omega) (by omega) fun u h4 u0 u1 x4=> ?_
  ac_nf0
  rw [zpt]
  generalize hj:(if t+1+u<m then t+1+u else m)=j
  have j0:t<j/\j<=m:=by
   rw [<- hj]
   split<;>omega
  have e4:=x4.2 c _ hbc (x3.2 c _ hbc (x2.2 c _ hbc e))
  ac_nf0
  simp only [zah,zbf e4,zak]
  rw [zcX (by omega) (by omega) (by omega)]
  ac_nf0
  refine zaA x4.1 f0 f1 fun p h5 p0 p1 x5=> ?_
  have e5:=x5.2 c _ hbc e4
  ac_nf0
  refine zei e5 (by rw [qaH];omega) ?_
  ac_nf0
  have em:os.map zcj++[D.tup [D.tup (((List.range (j - t).toNat).map fun (k:Nat)=>t+(k:Int)).map D.int),D.int (p+1)]]=(os++[(rgA t j,p+1)]).map zcj:=by
   rw [List.map_append]
   rfl
  rw [em]
  refine ih (os++[(rgA t j,p+1)]) _ _ _ _ (ziv x5.1 hbc) (zgl e5) (fun o hx=> ?_) (by rw [qav,List.length_singleton];omega) fun os' y6 y7 y8 h' hl' ho' q' e'=> ?_
  ·rcases qaK.mp hx with z | z
   ·exact ho o z
   ·rw [List.mem_singleton.mp z]
    exact zkG t0 j0.1 j0.2 (by omega)
  ·exact k os' y6 y7 y8 h' (by rw [hl',qav,List.length_singleton,qaE];omega) ho' q' e'
theorem zhR {c:Nat} {full:List D} {h:Hh} (e:h[c]? = some (.lst full)) {s0 s1 s2 s3 s4 s5 s6 s7 s8 s12:Option D}: ∀ (os:List (List Int×Int)) (mt:List Int) {x10 x11:Option D} {P:Out->Hh->Prop},(∀ o∈os,o.1.length<=10)->mt.length+10*os.length<=1000->
  (∀ (mt':List Int) y10 y11,mt'.length<=1000->P (.nx [s0,s1,s2,s3,s4,s5,s6,s7,s8,some (.lst (List.map D.int mt')),y10,y11,s12]) h)->
  wp (zbq c full (fun x sd=>do let sd1<-zcV 2 (zaR (za1 10) (zaR (za1 11) zc3)) x sd;zbn sd1) (os.map zcj) [s0,s1,s2,s3,s4,s5,s6,s7,s8,some (.lst (List.map D.int mt)),x10,x11,s12]) h P
 | [],mt,x10,x11,P,ho,hl,k=>by
  rw [List.map_nil,zbq,zah]
  refine zhP e ?_
  rw [zak]
  exact k mt _ _ (by omega)
 | o::r,mt,x10,x11,P,ho,hl,k=>by
  rw [qaE] at hl
  have hol:=ho o qau
  have ih:=fun (mt':List Int) (x10 x11:Option D)=>zhR e (s0:=s0) (s1:=s1) (s2:=s2) (s3:=s3) (s4:=s4) (s5:=s5) (s6:=s6) (s7:=s7) (s8:=s8) (s12:=s12) r mt' (x10:=x10) (x11:=x11) (P:=P) (fun o ho'=>ho o (qan _ ho'))
  rw [qaM,zbq,zah]
  refine zhP e ?_
  generalize zbq c full (fun x sd=>do let sd1<-zcV 2 (zaR (za1 10) (zaR (za1 11) zc3)) x sd;zbn sd1) (r.map zcj)=rest at ih ⊢
  simp only [zbn]
  ac_nf0
  rw [zay (show mt.length+o.1.length<=1000 by omega)]
  ac_nf0
  rw [<- List.map_append]
  exact ih (mt++o.1) _ _ (by rw [qav];omega) k
theorem zk8 {b:Nat} {h:Hh} {P:D->Hh->Prop} (q:Bx b h) (k: ∀ m os h',Stk m os->Bx b h'->P (zbe m os) h'):wp (F_29 [.cel b,.int 10,.int 12]) h P:=by
 rw [d_29]
 simp only [G_29]
 generalize hT:(zaw (zgu (zpD (zag 5) (zaz (zaq 2 F_22) (zab (zag 0) (zab (cOp zbv (zaz zh9 (zab (zag 5) zan)) (cK (.int 1))) zan))) (zcZ (zab (cUn zdH (zag 3)) (zab (cOp zbv (cK (.int 1)) (zaz (zaq 2 F_22) (zab (zag 0) (zab (zag 4) zan)))) zan))))) (zbY (zcZ (zab (zag 3) (zab (zaz zbr (zab (cSl (cUn zpC (zag 5)) zdZ (zdX (zag 2))) zan)) zan)))))=TL
 ac_nf0
 refine zaA q (by decide) (by decide) fun t h2 t0 t1 x2=> ?_
 ac_nf0
 rw [zi8]
 ac_nf0
 refine zaA x2.1 (by decide) (by decide) fun f h3 f0 f1 x3=> ?_
 obtain ⟨far,ef,g0,g1⟩: ∃ far:Int,atI [D.int 3,.int 9,.int 50,.int 1000000000000] f=some (.int far)/\0<far/\far<2^64:=by
  have:f=0\/f=1\/f=2\/f=3:=by omega
  rcases this with rfl | rfl | rfl | rfl
  ·exact ⟨3,rfl,by decide,by decide⟩
  ·exact ⟨9,rfl,by decide,by decide⟩
  ·exact ⟨50,rfl,by decide,by decide⟩
  ·exact ⟨1000000000000,rfl,by decide,by decide⟩
 ac_nf0
 rw [ef]
 ac_nf0
 have hbc:=znv x3.1
 have el:(h3++[C.lst []])[h3.length]? = some (.lst (([]:List (List Int×Int)).map zcj)):=by simp
 have q3:=(x3.1.push (c:=C.lst [])).1
 generalize h3++[C.lst []]=h4 at el q3
 generalize h3.length=c at el hbc
 refine zaA q3 (by decide) (by decide) fun u h5 u0 u1 x5=> ?_
 have e5:=x5.2 c _ hbc el
 ac_nf0
 rw [zbW (by omega) (by omega)]
 ac_nf0
 have m0:1<=1+t:=by omega
 have m1:1+t<=10:=by omega
 generalize 1+t=m at m0 m1
 refine rw_loop m0 m1 g0 g1 hbc _ [] x5.1 e5 (fun o ho=>by cases ho) (by rw [zcf];simp;omega) fun os y6 y7 y8 h6 hl ho q6 e6=> ?_
 rw [zcf,qaJ] at hl
 have hl9:os.length<=9:=by omega
 have s:=zmB m0 m1 (by omega) ho
 ac_nf0
 unfold zn8
 ac_nf0
 simp only [zah,zbf e6]
 refine zhR e6 os [] (fun o hx=>s.olen o hx) (by simp;omega) fun mt y10 y11 hmt=> ?_
 ac_nf0
 have ec: ∀ {s0 s1 s2 s4 s5 s6 s7 s8 s10 s11 s12:Option D},zaI (zg3 (zab (zag 3) zan)) (za1 0) zbT zbU [none,some 9] [s0,s1,s2,some (.int m),s4,s5,s6,s7,s8,some (.lst (List.map D.int mt)),s10,s11,s12]=pure (.lst (((rgI m.toNat).filter fun x=> !mt.any (· == x)).map D.int)):=fun {s0 s1 s2 s4 s5 s6 s7 s8 s10 s11 s12}=>by
  rw [<- zcL (k:=fun d=>match d with | .int x=>if (!mt.any (· == x))=true then some (.int x) else none | d=>none) fun _=>rfl]
  refine zdF (by ac_nf0;rw [zbW (by omega) (by omega),zbL];rfl) (by simp [rgI];omega) fun x hx=> ?_
  obtain ⟨i,_,rfl⟩:=qaU.mp hx
  rw [show zal [none,some 9] [s0,s1,s2,some (.int m),s4,s5,s6,s7,s8,some (.lst (List.map D.int mt)),s10,s11,s12]=[none,some (.lst (List.map D.int mt))] from rfl]
  simp only [zaY,zbT,zbU]
  ac_nf0
  rw [zgW]
  ac_nf0
  split<;>rfl
 rw [ec,zak]
 have lkb: ∀ x∈(rgI m.toNat).filter fun x=> !mt.any (· == x),0<=x/\x<m:=fun x hx=>by
  have:=zeb x (List.mem_filter.mp hx).1
  omega
 have lku:((rgI m.toNat).filter fun x=> !mt.any (· == x)).Pairwise (· < ·):=(zcr _).sublist List.filter_sublist
 generalize (rgI m.toNat).filter (fun x=> !mt.any (· == x))=lk at lkb lku
 ac_nf0
 have en:=zlk lk []
 rw [List.map_nil] at en
 rw [en]
 ac_nf0
 cases hk:lk==[] with
 | true=>
  ac_nf0
  subst hT
  refine zkj m0 m1 g0 g1 hbc ho (by omega) q6 e6 fun os' h' s' q'=> ?_
  ac_nf0
  exact k m os' h' s' q'
 | false=>
  have hne:lk≠[]:=fun z=>by rw [z] at hk;cases hk
  have b1:=lkb _ (zku hne)
  have b2:=lkb _ (zd9 hne)
  have b3:=(btw lku _ (zd9 hne)).1
  ac_nf0
  simp only [zah,zbf e6,zak]
  rw [zjJ hne,zjU hne]
  ac_nf0
  rw [zcX (by omega) (by omega) (by omega)]
  ac_nf0
  refine zaA q6 g0 g1 fun p h7 p0 p1 x7=> ?_
  have e7:=x7.2 c _ hbc e6
  ac_nf0
  refine zei e7 (by rw [qaH];omega) ?_
  ac_nf0
  have em:os.map zcj++[D.tup [D.tup (((List.range (zfZ lk+1 - zfu lk).toNat).map fun (k:Nat)=>zfu lk+(k:Int)).map D.int),D.int (p+1)]]=(os++[(rgA (zfu lk) (zfZ lk+1),p+1)]).map zcj:=by
   rw [List.map_append]
   rfl
  rw [em]
  subst hT
  refine zkj (os:=os++[(rgA (zfu lk) (zfZ lk+1),p+1)]) m0 m1 g0 g1 hbc (fun o hx=> ?_) (by rw [qav,List.length_singleton];omega) (ziv x7.1 hbc) (zgl e7) fun os' h' s' q'=>by ac_nf0;exact k m os' h' s' q'
  rcases qaK.mp hx with z | z
  ·exact ho o z
  ·rw [List.mem_singleton.mp z]
   exact zkG b1.1 (by omega) (by omega) (by omega)
theorem zlK {mr:Int} {bk:List Int} (hb:Ord mr bk) (r0:1<=mr) (r1:mr<=10) {osr:List (List Int×Int)} {s0 s1 s2 s5 s6 s7 s8:Option D}:
  zaI (zg3 (zab (cOp dIx (zag 3) (cK (.int 0))) zan)) (za1 0) (fun _=>pure true) zgT [none,some 4] [s0,s1,s2,some (zbe mr osr),some (tI bk),s5,s6,s7,s8]=pure (.lst (((rgI mr.toNat).map fun x=>(zd7 bk x:Int)).map D.int)):=by
 rw [zb9 (g':=D.int) (xs:=rgI mr.toNat) (k:=fun x=>some (.int (zd7 bk x:Int))) (by
   ac_nf0
   rw [zpQ]
   ac_nf0
   rw [zbW (by omega) (by omega),zbL]
   rfl) (by simp [rgI];omega) fun x hx=> ?_]
 ·congr 2
  rw [qaT]
  exact congrFun List.filterMap_eq_map' _
 ·have hx':=zeb x hx
  have hm:=hb.mem hx'.1 (by omega)
  rw [show zal [none,some 4] [s0,s1,s2,some (zbe mr osr),some (tI bk),s5,s6,s7,s8]=[none,some (tI bk)] from rfl]
  simp only [zaY,zgT]
  ac_nf0
  rw [show znr (zag 1) (zag 0) [some (.int x),some (.tup (bk.map D.int))]=zoi (.tup (bk.map D.int)) (.int x) from rfl,zpi hm]
  ac_nf0
theorem zmJ (s:Stk m os) {b c:Nat} {xs:List D} (hg: ∀ x∈xs,gk x) (hl:xs.length<=1000) {s0 s1 s2 s3 s4 s6 s7:Option D} {h:Hh} (q:Bx b h) (e:h[c]? = some (.lst xs)) {P:Out->Hh->Prop} (k: ∀ h',Bx b h'->P (.nx [s0,s1,s2,s3,s4,some (zbe m os),s6,s7,some (.cel c)]) h'):
  wp (sIf (zfO (zgM (zaz zkP (zab (zfa (zag 8) (za1 0) (fun _=>pure true) zeB [none,some 5]) zan)))) (zbY (cK (.bl false))) zfN [s0,s1,s2,s3,s4,some (zbe m os),s6,s7,some (.cel c)]) h P:=by
 ac_nf0
 unfold zfa
 ac_nf0
 simp only [zah,zbf e]
 rw [zay hl]
 ac_nf0
 rw [show zal [none,some 5] [s0,s1,s2,s3,s4,some (zbe m os),s6,s7,some (.cel c)]=[none,some (zbe m os)] from rfl]
 refine zhv (k:=fun _=>some (.bl true)) xs e (fun x hx=> ?_) fun h' g=> ?_
 ·have er:=zlB s (hg x hx)
  have e1:zaY (za1 0) (fun _=>pure true) zeB [none,some (zbe m os)] x=(F_35 [zbe m os,x]>>=fun d=>pure (some d)):=by
   simp only [zaY,zeB]
   ac_nf0
  rw [e1]
  exact er.bind .pure
 ·have e2:(xs.filterMap fun _=>some (D.bl true))=(xs.map fun _=>true).map D.bl:=by
   rw [qaT]
   exact congrFun List.filterMap_eq_map' _
  have e3:(xs.map fun _=>true).all id=true:=by simp
  rw [e2]
  ac_nf0
  rw [zfz,e3]
  ac_nf0
  exact k _ (g.ext q).1
theorem ziy (s:Stk m os) {mr:Int} {bk:List Int} (hb:Ord mr bk) (r0:1<=mr) (r1:mr<=10) {osr:List (List Int×Int)} {b:Nat} {s0 s1 x6 x7 x8:Option D} {h:Hh} (q:Bx b h) {P:Out->Hh->Prop}
  (k: ∀ y6 y7 y8 h',Bx b h'->P (.nx [s0,s1,some (.cel b),some (zbe mr osr),some (tI bk),some (zbe m os),y6,y7,y8]) h'):
  wp (zdu [s0,s1,some (.cel b),some (zbe mr osr),some (tI bk),some (zbe m os),x6,x7,x8]) h P:=by
 have m0:=s.m0
 have m1:=s.m1
 simp only [zdu]
 generalize hT:(sIf (zfO (zgM (zaz zkP (zab (zfa (zag 8) (za1 0) (fun _=>pure true) zeB [none,some 5]) zan)))) (zbY (cK (.bl false))) zfN)=TL
 ac_nf0
 rw [zhm s]
 ac_nf0
 rw [show zeK "bool" (.bl (zos os))=pure (.bl true) from rfl]
 ac_nf0
 rw [zgA s]
 ac_nf0
 rw [zsH,beq_self_eq_true]
 ac_nf0
 rw [zpQ]
 ac_nf0
 refine zhV m0 m1 q fun ys h1 ho q1=> ?_
 have yl:=ho.len
 have eb:=fun {h:Hh} {P:D->Hh->Prop} (q:Bx b h) (k: ∀ d h',gk d->Ext b h h'->P d h')=>zn7 (ys:=ys) (n:=m) q (by omega) (by omega) (by omega) k
 have gy:gk (tI ys):=zkl (by omega)
 have ei:=fun (s8:Option D)=>zlK hb r0 r1 (s8:=s8) (osr:=osr) (s0:=s0) (s1:=s1) (s2:=some (.cel b)) (s5:=some (zbe m os)) (s6:=some (.bl (zos os))) (s7:=some (tI ys))
 have gi:gk (tI ((rgI mr.toNat).map fun x=>(zd7 bk x:Int))):=zkl (by simp [rgI];omega)
 generalize tI ys=ty at gy eb ei
 ac_nf0
 rw [zeY (by omega) (by omega)]
 ac_nf0
 have gr:gk (tI (rgI m.toNat)):=zkl (by simp [rgI];omega)
 have er:D.tup (((List.range m.toNat).map fun (k:Nat)=>(k:Int)).map D.int)=tI (rgI m.toNat):=rfl
 rw [er]
 generalize tI (rgI m.toNat)=tr at gr
 refine eb q1 fun d1 h2 g1 x2=> ?_
 ac_nf0
 refine eb x2.1 fun d2 h3 g2 x3=> ?_
 ac_nf0
 have el:(h3++[C.lst [ty,tr,d1,d2]])[h3.length]? = some (.lst [ty,tr,d1,d2]):=by simp
 have hcb:=znv x3.1
 have q3:=(x3.1.push (c:=C.lst [ty,tr,d1,d2])).1
 generalize h3++[C.lst [ty,tr,d1,d2]]=h4 at el q3
 generalize h3.length=c at el hcb
 have hg: ∀ x∈[ty,tr,d1,d2],gk x:=fun x hx=>by
  simp only [qaP,qaF,or_false] at hx
  rcases hx with rfl | rfl | rfl | rfl
  ·exact gy
  ·exact gr
  ·exact g1
  ·exact g2
 rw [show dIx (zbe mr osr) (.int 0)=pure (.int mr) from rfl]
 ac_nf0
 rw [zoS]
 ac_nf0
 cases hm:m==mr with
 | false=>
  ac_nf0
  subst hT
  exact zmJ s hg (show 4<=1000 by decide) q3 el fun h' q'=>k _ _ _ h' q'
 | true=>
  ac_nf0
  simp only [zah,zbf el,zak]
  simp only [tI] at ei
  rw [ei,zak]
  ac_nf0
  refine zei el (show 4+1<=1000 by decide) ?_
  ac_nf0
  subst hT
  refine zmJ (xs:=[ty,tr,d1,d2]++[tI ((rgI mr.toNat).map fun x=>(zd7 bk x:Int))]) s (fun x hx=> ?_) (show 5<=1000 by decide) (ziv q3 hcb) (zgl el) fun h' q'=>k _ _ _ h' q'
  rcases qaK.mp hx with z | z
  ·exact hg x z
  ·rw [List.mem_singleton.mp z]
   exact gi
theorem zhD {ns:List Int}: ∀ (ds:List D) {h:Hh} {x1 x2 x3 x4 x5 x6 x7 x8:Option D},(∀ d∈ds, ∃ i:Int,d= .int i/\0<=i/\i<5)->
  wp (zbd (fun x sd=>do let sd1<-za1 1 x sd;zej sd1) ds [some (.scr (ns.map D.int)),x1,x2,x3,x4,x5,x6,x7,x8]) h fun o _=> ∃ sd,o= .nx sd
 | [],h,x1,x2,x3,x4,x5,x6,x7,x8,_=>by rw [zd4,zak];exact ⟨_,rfl⟩
 | d::r,h,x1,x2,x3,x4,x5,x6,x7,x8,hd=>by
  obtain ⟨i,rfl,i0,i1⟩:=hd _ qau
  have ih: ∀ {h:Hh} {x1 x2 x3 x4 x5 x6 x7 x8:Option D},wp (zbd (fun x sd=>do let sd1<-za1 1 x sd;zej sd1) r [some (.scr (ns.map D.int)),x1,x2,x3,x4,x5,x6,x7,x8]) h fun o _=> ∃ sd,o= .nx sd:=zhD r fun y hy=>hd y (qan _ hy)
  rw [zc1]
  generalize zbd (fun x sd=>do let sd1<-za1 1 x sd;zej sd1) r=rest at ih ⊢
  simp only [zej]
  ac_nf0
  refine zqB i0 i1 fun z=> ?_
  have qb:Bx h.length (h++[.lst [.int z]]):=⟨z,by simp⟩
  generalize h.length=b at qb ⊢
  generalize h++[.lst [.int z]]=h1 at qb ⊢
  ac_nf0
  refine zk8 qb fun mr osr h2 sr q2=> ?_
  have r0:=sr.m0
  have r1:=sr.m1
  ac_nf0
  rw [show dIx (zbe mr osr) (.int 0)=pure (.int mr) from rfl]
  ac_nf0
  refine zhV r0 r1 q2 fun bk h3 hb q3=> ?_
  have e1:=zhw sr hb
  have e2:=fun {m:Int} {os:List (List Int×Int)} (s:Stk m os) {x6 x7 x8:Option D} {h:Hh} (q:Bx b h) {P:Out->Hh->Prop}=>ziy s hb r0 r1 (osr:=osr) (s0:=some (.scr (ns.map D.int))) (s1:=some (.int i)) (x6:=x6) (x7:=x7) (x8:=x8) q (P:=P)
  generalize tI bk=tb at e1 e2
  ac_nf0
  refine e1.wp fun h4 g4=> ?_
  have q4:=(g4.ext q3).1
  ac_nf0
  refine znY (by decide) (by decide) q4 fun m ods h5 q5 m0 m1 l0 l1 ho _=> ?_
  obtain ⟨os,rfl,s,hp⟩:=zmI m0 m1 l1 ho
  ac_nf0
  rw [zc1,zah]
  refine e2 sr q5 fun y6 y7 y8 h6 q6=> ?_
  show wp (zbd (fun x sd=>zdu (List.set sd 5 (some x))) [zbe mr (zcS bk osr),zbe m os] _) h6 _
  rw [zc1,zah]
  refine e2 (zfy sr hb) q6 fun y6 y7 y8 h7 q7=> ?_
  show wp (zbd (fun x sd=>zdu (List.set sd 5 (some x))) [zbe m os] _) h7 _
  rw [zc1,zah]
  refine e2 s q7 fun y6 y7 y8 h8 q8=> ?_
  show wp (zbd (fun x sd=>zdu (List.set sd 5 (some x))) [] _) h8 _
  rw [zd4,zak]
  exact ih
theorem zk2: ∀ ns:List Int,ns.length<=63-> ∃ h',F_36 [.scr (ns.map D.int)] []= .ok (.bl true) h':=by
 intro ns _
 have key:wp (F_36 [.scr (ns.map D.int)]) [] fun d _=>d= .bl true:=by
  rw [d_36]
  simp only [G_36]
  ac_nf0
  simp only [zmG]
  ac_nf0
  simp only [zpt]
  ac_nf0
  generalize hn:(if (if (4:Int)<(ns.length:Int) then (4:Int) else (ns.length:Int))>1 then (if (4:Int)<(ns.length:Int) then (4:Int) else (ns.length:Int)) else (1:Int))=n
  have n0:0<=n/\n<=5:=by
   rw [<- hn]
   split<;>split<;>omega
  rw [zbW n0.1 (by omega)]
  ac_nf0
  refine zgR (zhD _ fun d hd=> ?_) ?_
  ·obtain ⟨i,e,i0,i1⟩:=zfE hd
   exact ⟨i,e,i0,by omega⟩
  ·rintro o h' ⟨sd,rfl⟩
   ac_nf0
 obtain ⟨d,h',e,rfl⟩:=key
 exact ⟨h',e⟩
end K71
namespace K71
open PySem PySem.Spec PyProof.Rows L2 L3
theorem zpv {l:W.OpenLaw} {w:World} {K:W.Frag} {h:Heap} {mg:Str->Option Value} {fa a_0 a_1 a_2 a_3 a_4 a_5 a_6 a_7 a_8 a_9 a_10 a_11 a_20 a_21 a_22 a_29 a_30 a_33 a_26 a_27 a_17 a_14 a_34 a_24 a_28 a_23 a_32 a_13 a_19 a_12 a_18 a_15 a_25 a_16 a_31 a_35 a_36:Addr} (X:K.In h) (G:h.Ns mainGlobals mg) (hfa:mg "law"=some (.ref fa))
  {od_36 an_36:Option Addr} {sl_36:Array (Option Value)} {oc_36 kV_36 dc_36 pm_36 cd_36 ct_36:Value}
  {d_20 d_21 d_22 d_29 d_30 d_33 d_26 d_27 d_17 d_14 d_34 d_24 d_28 d_23 d_32 d_13 d_19 d_12 d_18 d_15 d_25 d_16 d_31 d_35:FuncData}
  (f_20:Fd K "_law_cell" s_20 a_20 d_20)
  (f_21:Fd K "_law_box" s_21 a_21 d_21)
  (f_22:Fd K "_law_take" s_22 a_22 d_22)
  (f_29:Fd K "_law_rowed" s_29 a_29 d_29)
  (f_30:Fd K "_law_order" s_30 a_30 d_30)
  (f_33:Fd K "_law_laid" s_33 a_33 d_33)
  (f_26:Fd K "_law_things" s_26 a_26 d_26)
  (f_27:Fd K "_law_full" s_27 a_27 d_27)
  (f_17:Fd K "is_stretch" s_17 a_17 d_17)
  (f_14:Fd K "in_row" s_14 a_14 d_14)
  (f_34:Fd K "_law_in_row" s_34 a_34 d_34)
  (f_24:Fd K "_law_odd" s_24 a_24 d_24)
  (f_28:Fd K "_law_bent" s_28 a_28 d_28)
  (f_23:Fd K "_law_whole" s_23 a_23 d_23)
  (f_32:Fd K "_law_is_order" s_32 a_32 d_32)
  (f_13:Fd K "narrowed" s_13 a_13 d_13)
  (f_19:Fd K "laid_by" s_19 a_19 d_19)
  (f_12:Fd K "is_whole" s_12 a_12 d_12)
  (f_18:Fd K "is_order" s_18 a_18 d_18)
  (f_15:Fd K "makes_row" s_15 a_15 d_15)
  (f_25:Fd K "_law_kind" s_25 a_25 d_25)
  (f_16:Fd K "laid" s_16 a_16 d_16)
  (f_31:Fd K "_law_asked" s_31 a_31 d_31)
  (f_35:Fd K "_law_right" s_35 a_35 d_35)
  (e_36:W.nsIn K mainGlobals "law"=some (some (.ref a_36))) (l_36:K.lookup a_36=some ⟨oc_36,od_36,.func (W.fnOf "law" "law" (zdz s_36) (zbS s_36) (zae s_36) .none kV_36 dc_36 pm_36 an_36 cd_36 ct_36),sl_36⟩) (c_36:W.codeIn K cd_36 "law"=true) (k_36:W.keepIn K (.ref a_36)=true)
  (e_0:W.nsIn K mainGlobals "CoverError"=some (some (.ref a_0)))
  (e_1:W.nsIn K mainGlobals "NoStock"=some (some (.ref a_1)))
  (e_2:W.nsIn K mainGlobals "NoOffer"=some (some (.ref a_2)))
  (e_3:W.nsIn K mainGlobals "NoThing"=some (some (.ref a_3)))
  (e_4:W.nsIn K mainGlobals "NoCover"=some (some (.ref a_4)))
  (e_5:W.nsIn K mainGlobals "NoPaper"=some (some (.ref a_5)))
  (e_6:W.nsIn K mainGlobals "NoNumber"=some (some (.ref a_6)))
  (e_7:W.nsIn K mainGlobals "NotFull"=some (some (.ref a_7)))
  (e_8:W.nsIn K mainGlobals "NotInRow"=some (some (.ref a_8)))
  (e_9:W.nsIn K mainGlobals "NoText"=some (some (.ref a_9)))
  (e_10:W.nsIn K mainGlobals "NoRow"=some (some (.ref a_10)))
  (e_11:W.nsIn K mainGlobals "TooMany"=some (some (.ref a_11)))
  (z_ValueError:W.nsIn K mainGlobals "ValueError"=some none)
  (z_all:W.nsIn K mainGlobals "all"=some none)
  (z_bool:W.nsIn K mainGlobals "bool"=some none)
  (z_dict:W.nsIn K mainGlobals "dict"=some none)
  (z_enumerate:W.nsIn K mainGlobals "enumerate"=some none)
  (z_int:W.nsIn K mainGlobals "int"=some none)
  (z_isinstance:W.nsIn K mainGlobals "isinstance"=some none)
  (z_len:W.nsIn K mainGlobals "len"=some none)
  (z_list:W.nsIn K mainGlobals "list"=some none)
  (z_max:W.nsIn K mainGlobals "max"=some none)
  (z_min:W.nsIn K mainGlobals "min"=some none)
  (z_range:W.nsIn K mainGlobals "range"=some none)
  (z_set:W.nsIn K mainGlobals "set"=some none)
  (z_sorted:W.nsIn K mainGlobals "sorted"=some none)
  (z_sum:W.nsIn K mainGlobals "sum"=some none)
  (z_tuple:W.nsIn K mainGlobals "tuple"=some none)
  (x_tab:zjw K a_0 [("NoStock",a_1),("NoOffer",a_2),("NoThing",a_3),("NoCover",a_4),("NoPaper",a_5),("NoNumber",a_6),("NotFull",a_7),("NotInRow",a_8),("NoText",a_9),("NoRow",a_10),("TooMany",a_11)]=true)
  : ∃ fd:FuncData,(∀ (s:Shared) (v:Value),BindsTo s fd ⟨[v],[]⟩ [("script",v)])/\ ∀ base:Heap,K.In base->base.Ns mainGlobals mg->zbw l.prog w K mg base CX0 6 fa fd ["script"] (zb6 K 1 F_36):=by
 have e:=hfa.symm.trans (W.mg_of X G e_36)
 cases e
 have F_36:=zaV (st:=s_36) l_36 c_36 k_36
 have b_36:=F_36.binds (ps:=["script"]) fun _ _ _ _ _ _ us hl=>match us,hl with | [_],_=>rfl
 have T:Tx K mg ⟨a_0,a_1,a_2,a_3,a_4,a_5,a_6,a_7,a_8,a_9,a_10,a_11,a_20,_,a_21,_,a_22,_,a_29,_,a_30,_,a_33,_,a_26,_,a_27,_,a_17,_,a_14,_,a_34,_,a_24,_,a_28,_,a_23,_,a_32,_,a_13,_,a_19,_,a_12,_,a_18,_,a_15,_,a_25,_,a_16,_,a_31,_,a_35,_,fa,_⟩:=
  {g_0:=W.mg_of X G e_0,
    g_1:=W.mg_of X G e_1,
    g_2:=W.mg_of X G e_2,
    g_3:=W.mg_of X G e_3,
    g_4:=W.mg_of X G e_4,
    g_5:=W.mg_of X G e_5,
    g_6:=W.mg_of X G e_6,
    g_7:=W.mg_of X G e_7,
    g_8:=W.mg_of X G e_8,
    g_9:=W.mg_of X G e_9,
    g_10:=W.mg_of X G e_10,
    g_11:=W.mg_of X G e_11,
    k_1:=e_1,
    k_2:=e_2,
    k_3:=e_3,
    k_4:=e_4,
    k_5:=e_5,
    k_6:=e_6,
    k_7:=e_7,
    k_8:=e_8,
    k_9:=e_9,
    k_10:=e_10,
    k_11:=e_11,
    x_exc:=zkN.of x_tab,
    n_ValueError:=W.mg_none_of X G z_ValueError,
    n_all:=W.mg_none_of X G z_all,
    n_bool:=W.mg_none_of X G z_bool,
    n_dict:=W.mg_none_of X G z_dict,
    n_enumerate:=W.mg_none_of X G z_enumerate,
    n_int:=W.mg_none_of X G z_int,
    n_isinstance:=W.mg_none_of X G z_isinstance,
    n_len:=W.mg_none_of X G z_len,
    n_list:=W.mg_none_of X G z_list,
    n_max:=W.mg_none_of X G z_max,
    n_min:=W.mg_none_of X G z_min,
    n_range:=W.mg_none_of X G z_range,
    n_set:=W.mg_none_of X G z_set,
    n_sorted:=W.mg_none_of X G z_sorted,
    n_sum:=W.mg_none_of X G z_sum,
    n_tuple:=W.mg_none_of X G z_tuple,
    m_20:=W.mg_of X G f_20.e,
    F_20:=f_20.F,
    b_20:=f_20.F.binds (ps:=["script","k"]) fun _ _ _ _ _ _ us hl=>match us,hl with | [_,_],_=>rfl,
    m_21:=W.mg_of X G f_21.e,
    F_21:=f_21.F,
    b_21:=f_21.F.binds (ps:=["script","k"]) fun _ _ _ _ _ _ us hl=>match us,hl with | [_,_],_=>rfl,
    m_22:=W.mg_of X G f_22.e,
    F_22:=f_22.F,
    b_22:=f_22.F.binds (ps:=["box","many"]) fun _ _ _ _ _ _ us hl=>match us,hl with | [_,_],_=>rfl,
    m_29:=W.mg_of X G f_29.e,
    F_29:=f_29.F,
    b_29:=f_29.F.binds (ps:=["box","most","lots"]) fun _ _ _ _ _ _ us hl=>match us,hl with | [_,_,_],_=>rfl,
    m_30:=W.mg_of X G f_30.e,
    F_30:=f_30.F,
    b_30:=f_30.F.binds (ps:=["box","many"]) fun _ _ _ _ _ _ us hl=>match us,hl with | [_,_],_=>rfl,
    m_33:=W.mg_of X G f_33.e,
    F_33:=f_33.F,
    b_33:=f_33.F.binds (ps:=["stock","order"]) fun _ _ _ _ _ _ us hl=>match us,hl with | [_,_],_=>rfl,
    m_26:=W.mg_of X G f_26.e,
    F_26:=f_26.F,
    b_26:=f_26.F.binds (ps:=["box","many"]) fun _ _ _ _ _ _ us hl=>match us,hl with | [_,_],_=>rfl,
    m_27:=W.mg_of X G f_27.e,
    F_27:=f_27.F,
    b_27:=f_27.F.binds (ps:=["box","most","lots"]) fun _ _ _ _ _ _ us hl=>match us,hl with | [_,_,_],_=>rfl,
    m_17:=W.mg_of X G f_17.e,
    F_17:=f_17.F,
    b_17:=f_17.F.binds (ps:=["things"]) fun _ _ _ _ _ _ us hl=>match us,hl with | [_],_=>rfl,
    m_14:=W.mg_of X G f_14.e,
    F_14:=f_14.F,
    b_14:=f_14.F.binds (ps:=["stock"]) fun _ _ _ _ _ _ us hl=>match us,hl with | [_],_=>rfl,
    m_34:=W.mg_of X G f_34.e,
    F_34:=f_34.F,
    b_34:=f_34.F.binds (ps:=["stock"]) fun _ _ _ _ _ _ us hl=>match us,hl with | [_],_=>rfl,
    m_24:=W.mg_of X G f_24.e,
    F_24:=f_24.F,
    b_24:=f_24.F.binds (ps:=["box"]) fun _ _ _ _ _ _ us hl=>match us,hl with | [_],_=>rfl,
    m_28:=W.mg_of X G f_28.e,
    F_28:=f_28.F,
    b_28:=f_28.F.binds (ps:=["box","lot","many"]) fun _ _ _ _ _ _ us hl=>match us,hl with | [_,_,_],_=>rfl,
    m_23:=W.mg_of X G f_23.e,
    F_23:=f_23.F,
    b_23:=f_23.F.binds (ps:=["thing"]) fun _ _ _ _ _ _ us hl=>match us,hl with | [_],_=>rfl,
    m_32:=W.mg_of X G f_32.e,
    F_32:=f_32.F,
    b_32:=f_32.F.binds (ps:=["stock","thing"]) fun _ _ _ _ _ _ us hl=>match us,hl with | [_,_],_=>rfl,
    m_13:=W.mg_of X G f_13.e,
    F_13:=f_13.F,
    b_13:=f_13.F.binds (ps:=["offer","things"]) fun _ _ _ _ _ _ us hl=>match us,hl with | [_,_],_=>rfl,
    m_19:=W.mg_of X G f_19.e,
    F_19:=f_19.F,
    b_19:=f_19.F.binds (ps:=["stock","order"]) fun _ _ _ _ _ _ us hl=>match us,hl with | [_,_],_=>rfl,
    m_12:=W.mg_of X G f_12.e,
    F_12:=f_12.F,
    b_12:=f_12.F.binds (ps:=["thing"]) fun _ _ _ _ _ _ us hl=>match us,hl with | [_],_=>rfl,
    m_18:=W.mg_of X G f_18.e,
    F_18:=f_18.F,
    b_18:=f_18.F.binds (ps:=["stock","thing"]) fun _ _ _ _ _ _ us hl=>match us,hl with | [_,_],_=>rfl,
    m_15:=W.mg_of X G f_15.e,
    F_15:=f_15.F,
    b_15:=f_15.F.binds (ps:=["stock","thing"]) fun _ _ _ _ _ _ us hl=>match us,hl with | [_,_],_=>rfl,
    m_25:=W.mg_of X G f_25.e,
    F_25:=f_25.F,
    b_25:=f_25.F.binds (ps:=["e"]) fun _ _ _ _ _ _ us hl=>match us,hl with | [_],_=>rfl,
    m_16:=W.mg_of X G f_16.e,
    F_16:=f_16.F,
    b_16:=f_16.F.binds (ps:=["stock","order"]) fun _ _ _ _ _ _ us hl=>match us,hl with | [_,_],_=>rfl,
    m_31:=W.mg_of X G f_31.e,
    F_31:=f_31.F,
    b_31:=f_31.F.binds (ps:=["stock","thing"]) fun _ _ _ _ _ _ us hl=>match us,hl with | [_,_],_=>rfl,
    m_35:=W.mg_of X G f_35.e,
    F_35:=f_35.F,
    b_35:=f_35.F.binds (ps:=["stock","thing"]) fun _ _ _ _ _ _ us hl=>match us,hl with | [_,_],_=>rfl,
    m_36:=W.mg_of X G e_36,
    F_36:=F_36,
    b_36:=b_36}
 exact ⟨W.fnOf "law" "law" (zdz s_36) (zbS s_36) (zae s_36) .none kV_36 dc_36 pm_36 an_36 cd_36 ct_36,fun s v=> .of_eq rfl,fun base _ _=>ok_36 T⟩
theorem zss {l:W.OpenLaw} {q:Program} {loose:List Str} {XP:(Str->Option Value)->Heap->Prop} {YP:World->Heap->Prop} {d:DefRec} {K:Params->W.Frag} (hn:l.most=some 63) (hdf:d.params.defaults=[])
  (hY: ∀ (w:World) (h:Heap),YP w h->(K w.params).In h)
  (F: ∀ (w:World) (mg:Str->Option Value) (fa:Addr) (h:Heap),(K w.params).In h->h.Ns mainGlobals mg->mg d.name=some (.ref fa)->
    ∃ fd:FuncData,(∀ (s:Shared) (u:Value),BindsTo s fd ⟨[u],[]⟩ [("script",u)])/\ ∀ base:Heap,(K w.params).In base->base.Ns mainGlobals mg->zbw l.prog w (K w.params) mg base CX0 6 fa fd ["script"] (zb6 (K w.params) 1 F_36))
  (hm: ∀ ns:List Int,ns.length<=63-> ∃ h',F_36 [.scr (ns.map D.int)] []= .ok (.bl true) h'):
  W.WalkO q loose XP YP l.row.toRowW d [] (fun f vs=>PySem.call f vs):=
 L2.zmN (n:=63) (k:=6) (x:="script") (CX:=fun _=>CX0) (sp:=fun w=>zb6 (K w.params) 1 F_36) hn (by decide) hdf ⟨rfl,by decide,by decide⟩ hY F (fun w H a ns hl _ hS=>zrq hS (hm ns hl)) fun _ _ _ _ _ z=>z
end K71
open PySem PySem.W PyProof.Rows
set_option maxRecDepth 100000 in
set_option maxHeartbeats 0 in
theorem PySem.Challenge.cw_cheapcovers_k71_rows_and_orders_holds : PySem.Challenge.rw_cheapcovers_k71_rows_and_orders.Holds := by
 w_on; o_law; k_head; (case hw => w_witness2)
 k_fill
 refine K71.zss (l := PySem.Challenge.rw_cheapcovers_k71_rows_and_orders) rfl rfl (fun w h Y => W.kIn_of Y) ?F K71.zk2
 case F =>
  intro w mg fa h KX G hmg
  refine' K71.zpv KX G hmg (L3.Fd.mk ?e__law_cell (L2.zaV ?l__law_cell ?c__law_cell ?k__law_cell)) (L3.Fd.mk ?e__law_box (L2.zaV ?l__law_box ?c__law_box ?k__law_box)) (L3.Fd.mk ?e__law_take (L2.zaV ?l__law_take ?c__law_take ?k__law_take)) (L3.Fd.mk ?e__law_rowed (L2.zaV ?l__law_rowed ?c__law_rowed ?k__law_rowed)) (L3.Fd.mk ?e__law_order (L2.zaV ?l__law_order ?c__law_order ?k__law_order)) (L3.Fd.mk ?e__law_laid (L2.zaV ?l__law_laid ?c__law_laid ?k__law_laid)) (L3.Fd.mk ?e__law_things (L2.zaV ?l__law_things ?c__law_things ?k__law_things)) (L3.Fd.mk ?e__law_full (L2.zaV ?l__law_full ?c__law_full ?k__law_full)) (L3.Fd.mk ?e_is_stretch (L2.zaV ?l_is_stretch ?c_is_stretch ?k_is_stretch)) (L3.Fd.mk ?e_in_row (L2.zaV ?l_in_row ?c_in_row ?k_in_row)) (L3.Fd.mk ?e__law_in_row (L2.zaV ?l__law_in_row ?c__law_in_row ?k__law_in_row)) (L3.Fd.mk ?e__law_odd (L2.zaV ?l__law_odd ?c__law_odd ?k__law_odd)) (L3.Fd.mk ?e__law_bent (L2.zaV ?l__law_bent ?c__law_bent ?k__law_bent)) (L3.Fd.mk ?e__law_whole (L2.zaV ?l__law_whole ?c__law_whole ?k__law_whole)) (L3.Fd.mk ?e__law_is_order (L2.zaV ?l__law_is_order ?c__law_is_order ?k__law_is_order)) (L3.Fd.mk ?e_narrowed (L2.zaV ?l_narrowed ?c_narrowed ?k_narrowed)) (L3.Fd.mk ?e_laid_by (L2.zaV ?l_laid_by ?c_laid_by ?k_laid_by)) (L3.Fd.mk ?e_is_whole (L2.zaV ?l_is_whole ?c_is_whole ?k_is_whole)) (L3.Fd.mk ?e_is_order (L2.zaV ?l_is_order ?c_is_order ?k_is_order)) (L3.Fd.mk ?e_makes_row (L2.zaV ?l_makes_row ?c_makes_row ?k_makes_row)) (L3.Fd.mk ?e__law_kind (L2.zaV ?l__law_kind ?c__law_kind ?k__law_kind)) (L3.Fd.mk ?e_laid (L2.zaV ?l_laid ?c_laid ?k_laid)) (L3.Fd.mk ?e__law_asked (L2.zaV ?l__law_asked ?c__law_asked ?k__law_asked)) (L3.Fd.mk ?e__law_right (L2.zaV ?l__law_right ?c__law_right ?k__law_right)) ?e_law ?l_law ?c_law ?k_law ?e_CoverError ?e_NoStock ?e_NoOffer ?e_NoThing ?e_NoCover ?e_NoPaper ?e_NoNumber ?e_NotFull ?e_NotInRow ?e_NoText ?e_NoRow ?e_TooMany ?z_ValueError ?z_all ?z_bool ?z_dict ?z_enumerate ?z_int ?z_isinstance ?z_len ?z_list ?z_max ?z_min ?z_range ?z_set ?z_sorted ?z_sum ?z_tuple ?x_tab
  (case e__law_cell => k_is)
  (case l__law_cell => k_is)
  (case c__law_cell => k_is)
  (case k__law_cell => k_is)
  (case e__law_box => k_is)
  (case l__law_box => k_is)
  (case c__law_box => k_is)
  (case k__law_box => k_is)
  (case e__law_take => k_is)
  (case l__law_take => k_is)
  (case c__law_take => k_is)
  (case k__law_take => k_is)
  (case e__law_rowed => k_is)
  (case l__law_rowed => k_is)
  (case c__law_rowed => k_is)
  (case k__law_rowed => k_is)
  (case e__law_order => k_is)
  (case l__law_order => k_is)
  (case c__law_order => k_is)
  (case k__law_order => k_is)
  (case e__law_laid => k_is)
  (case l__law_laid => k_is)
  (case c__law_laid => k_is)
  (case k__law_laid => k_is)
  (case e__law_things => k_is)
  (case l__law_things => k_is)
  (case c__law_things => k_is)
  (case k__law_things => k_is)
  (case e__law_full => k_is)
  (case l__law_full => k_is)
  (case c__law_full => k_is)
  (case k__law_full => k_is)
  (case e_is_stretch => k_is)
  (case l_is_stretch => k_is)
  (case c_is_stretch => k_is)
  (case k_is_stretch => k_is)
  (case e_in_row => k_is)
  (case l_in_row => k_is)
  (case c_in_row => k_is)
  (case k_in_row => k_is)
  (case e__law_in_row => k_is)
  (case l__law_in_row => k_is)
  (case c__law_in_row => k_is)
  (case k__law_in_row => k_is)
  (case e__law_odd => k_is)
  (case l__law_odd => k_is)
  (case c__law_odd => k_is)
  (case k__law_odd => k_is)
  (case e__law_bent => k_is)
  (case l__law_bent => k_is)
  (case c__law_bent => k_is)
  (case k__law_bent => k_is)
  (case e__law_whole => k_is)
  (case l__law_whole => k_is)
  (case c__law_whole => k_is)
  (case k__law_whole => k_is)
  (case e__law_is_order => k_is)
  (case l__law_is_order => k_is)
  (case c__law_is_order => k_is)
  (case k__law_is_order => k_is)
  (case e_narrowed => k_is)
  (case l_narrowed => k_is)
  (case c_narrowed => k_is)
  (case k_narrowed => k_is)
  (case e_laid_by => k_is)
  (case l_laid_by => k_is)
  (case c_laid_by => k_is)
  (case k_laid_by => k_is)
  (case e_is_whole => k_is)
  (case l_is_whole => k_is)
  (case c_is_whole => k_is)
  (case k_is_whole => k_is)
  (case e_is_order => k_is)
  (case l_is_order => k_is)
  (case c_is_order => k_is)
  (case k_is_order => k_is)
  (case e_makes_row => k_is)
  (case l_makes_row => k_is)
  (case c_makes_row => k_is)
  (case k_makes_row => k_is)
  (case e__law_kind => k_is)
  (case l__law_kind => k_is)
  (case c__law_kind => k_is)
  (case k__law_kind => k_is)
  (case e_laid => k_is)
  (case l_laid => k_is)
  (case c_laid => k_is)
  (case k_laid => k_is)
  (case e__law_asked => k_is)
  (case l__law_asked => k_is)
  (case c__law_asked => k_is)
  (case k__law_asked => k_is)
  (case e__law_right => k_is)
  (case l__law_right => k_is)
  (case c__law_right => k_is)
  (case k__law_right => k_is)
  (case e_law => k_is)
  (case l_law => k_is)
  (case c_law => k_is)
  (case k_law => k_is)
  (case e_CoverError => k_is)
  (case e_NoStock => k_is)
  (case e_NoOffer => k_is)
  (case e_NoThing => k_is)
  (case e_NoCover => k_is)
  (case e_NoPaper => k_is)
  (case e_NoNumber => k_is)
  (case e_NotFull => k_is)
  (case e_NotInRow => k_is)
  (case e_NoText => k_is)
  (case e_NoRow => k_is)
  (case e_TooMany => k_is)
  (case z_ValueError => k_is)
  (case z_all => k_is)
  (case z_bool => k_is)
  (case z_dict => k_is)
  (case z_enumerate => k_is)
  (case z_int => k_is)
  (case z_isinstance => k_is)
  (case z_len => k_is)
  (case z_list => k_is)
  (case z_max => k_is)
  (case z_min => k_is)
  (case z_range => k_is)
  (case z_set => k_is)
  (case z_sorted => k_is)
  (case z_sum => k_is)
  (case z_tuple => k_is)
  (case x_tab => kernel_rfl)
