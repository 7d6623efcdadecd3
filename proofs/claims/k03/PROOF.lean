import PyProof.Rows.All
import Wide.All
import OpenK.AllK
import Wide.FinOn
import PyProof.EqAt
import PyProof.EqKinds
import PyProof.TupleCall
import PyProof.StationsW
import PyProof.ExcArgs
import PyProof.Seq
import PyProof.TupleIter
import PyProof.RangeIter
import PyProof.WalkInts
import PyProof.SumWalkG
import PyProof.ListRange
import PyProof.Rows.Range3
import OpenK.KDescr
import PyProof.ExcAttrAll.ValueError
import PyProof.Draws
import PyProof.EnumFor
import PyProof.EnumMake
import PyProof.LayNew
import PyProof.Rows.EnumRows
import PyProof.MinMaxWalk
import Lean
import PySem.Challenge.RW_cheapcovers_k03_needed_offers
set_option Elab.async false
set_option linter.all false
set_option maxRecDepth 100000
set_option maxHeartbeats 8000000
set_option compiler.extract_closed false
set_option bootstrap.genMatcherCode false
set_option genSizeOfSpec false
section
open PySem PySem.Spec PyProof PyProof.Rows
abbrev qaa := @List.getElem?_append_right
abbrev qab := @Array.getElem?_eq_some_iff
abbrev qac := @List.getElem?_eq_some_iff
abbrev qad := @List.getElem?_append_left
abbrev qae := @List.drop_eq_getElem_cons
abbrev qaf := @List.getElem?_eq_getElem
abbrev qag := @Heap.get?_push_of_some
abbrev qah := @Heap.get?_update_other
abbrev qai := @List.getElem?_set_self
abbrev qaj := @Array.getElem?_toList
abbrev qak := @List.mem_append_right
abbrev qal := @Heap.get?_update_self
abbrev qam := @List.take_append_drop
abbrev qan := @List.mem_cons_of_mem
abbrev qao := @List.getElem?_set_ne
abbrev qap := @Around.under_plainId
abbrev qaq := @List.pairwise_append
abbrev qar := @Heap.get?_push_size
abbrev qas := @Array.length_toList
abbrev qat := @List.filterMap_cons
abbrev qau := @List.mem_cons_self
abbrev qav := @List.length_append
abbrev qaw := @Nat.lt_of_lt_of_le
abbrev qax := @Bool.false_eq_true
abbrev qay := @List.pairwise_cons
abbrev qaz := @Array.size_extract
abbrev qaA := @List.size_toArray
abbrev qaB := @Int.toNat_natCast
abbrev qaC := @wpAny_newObj_type
abbrev qaD := @decide_eq_true_eq
abbrev qaE := @List.length_cons
abbrev qaF := @List.not_mem_nil
abbrev qaG := @Bool.and_eq_true
abbrev qaH := @List.length_map
abbrev qaI := @List.length_set
abbrev qaJ := @List.length_nil
abbrev qaK := @List.mem_append
abbrev qaL := @Heap.size_push
abbrev qaM := @List.map_cons
abbrev qaN := @Nat.lt_irrefl
abbrev qaO := @wpAny_holding
abbrev qaP := @List.mem_cons
abbrev qaQ := @Heap.lt_size
abbrev qaR := @Nat.ne_of_lt
abbrev qaS := @Nat.le_trans
abbrev qaT := @List.map_map
abbrev qaU := @List.mem_map
abbrev qaV := @Nat.le_refl
abbrev qaW := @wpAny_bind
abbrev qaX := @wpAny_pure
abbrev qaZ := @wpAny_mono
abbrev qa0 := @False.elim
abbrev qa2 := @wpS_bind
abbrev qa3 := @wpS_pure
abbrev qa4 := @if_pos
abbrev qa5 := @if_neg
end
noncomputable def PySem.W.Fast.tw13603219042506295945:Nat:=0
noncomputable def PySem.W.Fast.tw12061961762184276495:Nat:=0
noncomputable def PySem.W.Fast.tw510380268746080391:Nat:=0
noncomputable def PySem.W.Fast.tw1496615015417177290:Nat:=0
noncomputable def PySem.W.Fast.tw1047259558406695258:Nat:=0
noncomputable def PySem.W.Fast.tw9329542805886852704:Nat:=0
noncomputable def PySem.W.Fast.tw6643768631716156576:Nat:=0
noncomputable def PySem.W.Fast.tw17919223081839857535:Nat:=0
noncomputable def PySem.W.Fast.tw12626626579775187093:Nat:=0
noncomputable def PySem.W.Fast.tw10690811836453315180:Nat:=0
noncomputable def PySem.W.Fast.tw15385956525891065957:Nat:=0
noncomputable def PySem.W.Fast.tw1812274917782598425:Nat:=0
noncomputable def PySem.W.Fast.tw7836648818351957705:Nat:=0
noncomputable def PySem.W.Fast.tw11459604580598777230:Nat:=0
noncomputable def PySem.W.Fast.tw8332029215092882443:Nat:=0
noncomputable def PySem.W.Fast.tw8418706531011237851:Nat:=0
namespace L3
open PySem
def zgK (h:Heap) (e:Addr) (cls head:Value):Prop:= ∃ ob vs,h.get? e=some ob/\ob.cls=cls/\ob.dict=none/\ob.data= .fields vs/\vs[2]? = some .none/\vs[1]? = some head
def zsl (h B:Heap) (e:Addr) (head fl:Value):Prop:= ∃ T ot ts,head= .ref T/\B.get? T=none/\T≠e/\h.get? T=some ot/\ot.data= .fields ts/\ts[3]? = some fl
structure Fly (B:Heap) (l:List Env) (e:Addr) (cls fl:Value) (h:Heap):Prop where
 stays:B.StaysIn h
 new:B.get? e=none
 frames:h.FunFrames B l
 exc: ∃ head,zgK h e cls head/\zsl h B e head fl
theorem zk7 (o:Obj) (f):(o.mapFields f).dict=o.dict:=by
 obtain ⟨c,d,t,z⟩:=o
 cases t<;>rfl
section
variable {M:Model} {A:Around} {E:Value->Shared->Prop} {s:Shared} {B:Heap} {env:Env} {outer l:List Env} {L e:Addr} {cls head fl:Value}
theorem zhx {hd0:Value} {hadNext:Bool} {Q:Unit->Shared->Prop} (hfr:A.frames=some (env::outer)) (hl:s.heap.FunFrames B (env::outer)) (hf:env.frame=some L) (hx:zgK s.heap e cls head)
  (hkb:B.StaysIn s.heap) (hen:B.get? e=none) (q: ∀ h',Fly B (env::outer) e cls (rawInt L) h'->s.heap.UpToSlots h'->Q () {s with heap:=h'}):
  wpAny M A (do let a<-frameOf env;let pl<-entryPlaceOf L hadNext;let b<-EntryCells.newEntry hd0 a .none (rawInt L) .none pl;setField (.ref e) 1 b) Q E s:=by
 obtain ⟨ob,vs,h1,h2,h3,h4,h5,h6⟩:=hx
 have hsz:1<vs.size:=(qab.mp h6).1
 have nfr:e∉(env::outer).filterMap (·.frame):=fun z=>by
  obtain ⟨_,o,ho,hn⟩:=hl.mem z
  rw [h1] at ho
  cases ho
  exact hn vs h4
 refine qaW (wpAny_frameOf_fun hfr hl hf fun g sg=> ?_)
 refine qaW (wpAny_entryPlaceOf fun pl hpl=> ?_)
 unfold EntryCells.newEntry newFields
 refine qaW (qaC ?_ (hpl.sizeOk5 _ _ _ _ _))
 have e1:g.get? e=some ob:=(sg.2.1 e nfr).trans h1
 have kb:B.StaysIn g:=fun b o z=>(sg.2.1 b fun w=>by rw [(hl.mem w).1] at z;cases z).trans (hkb b o z)
 generalize hob:({cls:= .type "traceback",dict:=none,data:= .fields ([hd0,.ref L,.none,rawInt L,.none]++(if pl.isEmpty then List.replicate 6 Value.none else pl)).toArray}:Obj)=tb
 have e2:(g.push tb).get? e=some ob:=qag _ e1
 have ne:g.objs.size≠e:=Nat.ne_of_gt (qaQ e1)
 have d3:=Obj.data_mapFields h4 (·.setIfInBounds 1 (Value.ref g.objs.size))
 have e3:=qal (Obj.mapFields (·.setIfInBounds 1 (Value.ref g.objs.size))) e2 (Obj.isFreed_of_fields d3)
 have ft:tb.isFreed=false:=by rw [<- hob];rfl
 have t3:((g.push tb).update e (Obj.mapFields (·.setIfInBounds 1 (Value.ref g.objs.size)))).get? g.objs.size=some tb:=(qah _ _ (Ne.symm ne)).trans (qar g ft)
 have stay: ∀ b o,b≠e->g.get? b=some o->((g.push tb).update e (Obj.mapFields (·.setIfInBounds 1 (Value.ref g.objs.size)))).get? b=some o:=fun b o hb z=>by
  rw [qah _ _ (Ne.symm hb)]
  exact qag _ z
 have nrec: ∀ b o,s.heap.get? b=some o->(∀ ws,o.data≠ .fields ws)->b≠e:=fun b o z hn w=>by
  rw [w,h1] at z
  cases z
  exact hn vs h4
 have ht: ∃ ts,tb.data= .fields ts/\ts[3]? = some (rawInt L):=⟨_,by rw [<- hob],by rcases hpl with rfl | ⟨_,_,_,_,_,_,_,rfl⟩<;>simp⟩
 obtain ⟨ts,ht1,ht2⟩:=ht
 refine wpAny_setField e2 h4 hsz (q _ ⟨fun b o z=>stay b o (fun w=>by rw [w,hen] at z;cases z) (kb b o z),hen,hl.of_keeps fun b o z hn=> ?_,.ref g.objs.size,⟨_,_,e3,(Obj.cls_mapFields _ _).trans h2,(zk7 _ _).trans h3,d3,?_,?_⟩,g.objs.size,tb,ts,rfl,kb.fresh,ne,t3,ht1,ht2⟩ fun b o z hn=> ?_)
 ·obtain ⟨sl,hs⟩:=sg.2.2 b o z
  exact ⟨_,stay b _ (nrec b o z hn) hs,rfl⟩
 ·rw [Array.getElem?_setIfInBounds_ne (by decide)]
  exact h5
 ·simp [hsz]
 ·obtain ⟨sl,hs⟩:=sg.2.2 b o z
  exact ⟨sl,stay b _ (nrec b o z hn) hs⟩
theorem zhR {Q:Unit->Shared->Prop} (hfr:A.frames=some (env::outer)) (hl:s.heap.FunFrames B (env::outer)) (hf:env.frame=some L) (hx:zgK s.heap e cls .none)
  (hkb:B.StaysIn s.heap) (hen:B.get? e=none) (q: ∀ h',Fly B (env::outer) e cls (rawInt L) h'->s.heap.UpToSlots h'->Q () {s with heap:=h'}):wpAny M A (noteFrame (.ref e) env) Q E s:=by
 obtain ⟨ob,vs,h1,h2,h3,h4,h5,h6⟩:=id hx
 unfold noteFrame
 simp only [hf]
 refine qaW (wpAny_field h1 h4 h6 ?_)
 rw [qa5 (by decide)]
 exact zhx hfr hl hf hx hkb hen q
theorem ziv {Q:Unit->Shared->Prop} (hfr:A.frames=some (env::outer)) (hf:env.frame=some L) (y:Fly B (env::outer) e cls .none s.heap)
  (q: ∀ h',Fly B (env::outer) e cls (rawInt L) h'->s.heap.UpToSlots h'->Q () {s with heap:=h'}):wpAny M A (noteFrame (.ref e) env) Q E s:=by
 obtain ⟨hkb,hen,hl,hd,⟨ob,vs,h1,h2,h3,h4,h5,h6⟩,T,ot,ts,rfl,t1,t2,t3,t4,t5⟩:=y
 unfold noteFrame
 simp only [hf]
 refine qaW (wpAny_field h1 h4 h6 ?_)
 rw [qa4 (show (Value.ref T != Value.none)=true by simp)]
 refine qaW (wpAny_field t3 t4 t5 ?_)
 rw [qa5 (show ¬(Value.none==rawInt L)=true by simp [rawInt])]
 refine qaW (wpAny_setField t3 t4 (qab.mp t5).1 ?_)
 have oth: ∀ b,b≠T->(s.heap.update T (Obj.mapFields (·.setIfInBounds 3 Value.none))).get? b=s.heap.get? b:=fun b hb=>qah _ _ (Ne.symm hb)
 have nrec: ∀ b o,s.heap.get? b=some o->(∀ ws,o.data≠ .fields ws)->b≠T:=fun b o z hn w=>by
  rw [w,t3] at z
  cases z
  exact hn ts t4
 refine zhx hfr (hl.of_keeps fun b o z hn=>⟨o,(oth b (nrec b o z hn)).trans z,rfl⟩) hf ⟨ob,vs,(oth e (Ne.symm t2)).trans h1,h2,h3,h4,h5,h6⟩ (fun b o z=>(oth b fun w=>by rw [w,t1] at z;cases z).trans (hkb b o z)) hen fun h' y u=> ?_
 exact q h' y fun b o z hn=>u b o ((oth b (nrec b o z hn)).trans z) hn
theorem zdi {Q:Unit->Shared->Prop} (y:Fly B l e cls fl s.heap) (q: ∀ h',Fly B l e cls .none h'->(∀ b o,s.heap.get? b=some o->(∀ ws,o.data≠ .fields ws)->h'.get? b=some o)->Q () {s with heap:=h'}):
  wpAny M A (setFlight (.ref e) none) Q E s:=by
 obtain ⟨hkb,hen,hl,hd,⟨ob,vs,h1,h2,h3,h4,h5,h6⟩,T,ot,ts,rfl,t1,t2,t3,t4,t5⟩:=y
 have hsz:=(qab.mp t5).1
 have oth: ∀ b,b≠T->(s.heap.update T (Obj.mapFields (·.setIfInBounds 3 ((none:Option Addr).elim Value.none fun f=>rawInt f)))).get? b=s.heap.get? b:=fun b hb=>qah _ _ (Ne.symm hb)
 have nrec: ∀ b o,s.heap.get? b=some o->(∀ ws,o.data≠ .fields ws)->b≠T:=fun b o z hn w=>by
  rw [w,t3] at z
  cases z
  exact hn ts t4
 unfold setFlight
 refine qaW (wpAny_field h1 h4 h6 ?_)
 rw [qa4 (show (Value.ref T != Value.none)=true by simp)]
 refine wpAny_setField t3 t4 hsz (q _ ⟨fun b o z=>(oth b fun w=>by rw [w,t1] at z;cases z).trans (hkb b o z),hen,hl.of_keeps fun b o z hn=>⟨o,(oth b (nrec b o z hn)).trans z,rfl⟩,
   .ref T,⟨ob,vs,(oth e (Ne.symm t2)).trans h1,h2,h3,h4,h5,h6⟩,T,_,_,rfl,t1,t2,qal _ t3 (Obj.isFreed_of_fields (Obj.data_mapFields t4 _)),Obj.data_mapFields t4 _,by simp [hsz]⟩ fun b o z hn=>(oth b (nrec b o z hn)).trans z)
theorem Fly.tail {h:Heap} (y:Fly B (env::outer) e cls fl h):Fly B outer e cls fl h:=⟨y.stays,y.new,y.frames.2.2,y.exc⟩
theorem zgF {Q:Unit->Shared->Prop} (hfr:A.frames=some (env::outer)) (hl:s.heap.FunFrames B (env::outer)) (hf:env.frame=some L) (hx:zgK s.heap e cls .none)
  (hkb:B.StaysIn s.heap) (hen:B.get? e=none) (q: ∀ h',Fly B outer e cls .none h'->s.heap.UpToSlots h'->Q () {s with heap:=h'}):wpAny M A (leaving env (.ref e)) Q E s:=by
 unfold leaving
 refine qaW (zhR hfr hl hf hx hkb hen fun h1 y1 u1=> ?_)
 refine zdi (s:={s with heap:=h1}) y1 fun h2 y2 k2=>q h2 y2.tail (u1.trans fun b o z hn=>⟨o.slots,k2 b o z hn⟩)
theorem zkr {Q:Unit->Shared->Prop} (hfr:A.frames=some (env::outer)) (hf:env.frame=some L) (y:Fly B (env::outer) e cls .none s.heap)
  (q: ∀ h',Fly B outer e cls .none h'->s.heap.UpToSlots h'->Q () {s with heap:=h'}):wpAny M A (leaving env (.ref e)) Q E s:=by
 unfold leaving
 refine qaW (ziv hfr hf y fun h1 y1 u1=> ?_)
 refine zdi (s:={s with heap:=h1}) y1 fun h2 y2 k2=>q h2 y2.tail (u1.trans fun b o z hn=>⟨o.slots,k2 b o z hn⟩)
theorem zli {h h':Heap} {args:List Value} (x:Heap.MadeExcOf h h' e cls args):zgK h' e cls .none:=by
 obtain ⟨t,h1,_,_⟩:=x.there
 exact ⟨_,_,h1,rfl,rfl,rfl,rfl,rfl⟩
end
theorem zeU:entryFor table "proto.unchain"=some Builtin.«proto.unchain» := entryFor_of_tree (by kernel_rfl)
section
variable {prog:Program} {w:World} {A:Around} {E:Value->Shared->Prop} {s:Shared}
theorem zdn {α:Type} {a h:Addr} {o:Obj} {us:Array Value} {cls head:Value} {Q:α->Shared->Prop} (hh:A.handled=some (.ref h)) (hx:zgK s.heap h cls head) (ho:s.heap.get? a=some o) (hd:o.data= .fields us) (hz:2<us.size) (hne:h≠a)
  (q:E (.ref a) {s with heap:=s.heap.update a (Obj.mapFields (·.setIfInBounds 2 (.ref h)))}):wpAny (model prog w) A (raiseNew (.ref a):Sem α) Q E s:=by
 obtain ⟨ob,vs,h1,h2,h3,h4,h5,h6⟩:=hx
 unfold raiseNew
 refine qaW (wpAny_handled ?_)
 rw [hh]
 dsimp only
 rw [qa4 (show (Value.ref h != Value.ref a)=true by simp [hne])]
 refine qaW (qaO (wpAny_runValue (codeAny_builtin zeU ?_)))
 unfold Builtin.«proto.unchain»
 refine qaW (wpAny_field h1 h4 h5 ?_)
 rw [qa4 (show (Value.none==Value.none)=true from rfl)]
 refine qaW (qaX (qaX ?_))
 refine qaW ?_
 obtain ⟨c,d,dt,sl⟩:=o
 dsimp only at hd
 subst hd
 unfold updateField
 refine qaW (wpAny_load ho ?_)
 dsimp only
 rw [qa4 hz]
 exact wpAny_update ho (wpAny_throw q)
def zkX (A:Around) (h:Heap):Prop:=A.handled=none\/ ∃ a cls head,A.handled=some (.ref a)/\zgK h a cls head
theorem zg6 {it l:Addr} {i:Nat} {items:Array Value} {Q:Option Value->Shared->Prop} (hh:zkX A s.heap) (hit:s.heap.IsListIter it l i) (hl:s.heap.IsList l items) (hx:items[i]? = none)
  (k: ∀ h',Heap.ExtBut it s.heap h'->Q none {s with heap:=h'}):wpAny (model prog w) A (pyNext (.ref it)) Q E s:=by
 rcases hh with hh | ⟨ha,cls,head,hh,hX⟩
 ·exact wpAny_pyNext_list_end hh hit hl hx k
 obtain ⟨o,h1,h2,h3⟩:=id hit
 obtain ⟨ol,l1,_,nl,l2⟩:=hl
 unfold pyNext
 refine qaW (wpAny_attempt (wpAny_callSpecial?_slot (name:=Str.ofString "__next__") hit.typeIs slot_listiter_next (wpAny_call_entry slot_listiter_next hit.typeIs entry_listiter_next ?_ (args_listiter_next _))))
 show wpAny _ _ (field (.ref it) 0>>=_) _ _ s
 refine qaW (wpAny_field h1 h3 (x:= .ref l) rfl ?_)
 show wpAny _ _ (if (Value.ref l==Value.none)=true then _ else _) _ _ s
 rw [qa5 (show ¬(Value.ref l==Value.none)=true from nofun)]
 show wpAny _ _ (field (.ref it) 1>>=_) _ _ s
 refine qaW (wpAny_field h1 h3 (x:= .int i 0) rfl ?_)
 show wpAny _ _ (seqItems? (.ref l)>>=_) _ _ s
 refine qaW (wpAny_seqItems l1 l2 ?_)
 simp only [qaB,hx]
 refine qaW (wpAny_rule (qaW (wpAny_setField h1 h3 (by simp) ?_)))
 have nit:ha≠it:=fun z=>by
  subst z
  obtain ⟨ob,vs,x1,_,_,x4,x5,x6⟩:=hX
  rw [h1] at x1
  cases x1
  rw [h3] at x4
  cases x4
  simp at x5
 have hX1:zgK (s.heap.update it (Obj.mapFields (·.setIfInBounds 0 Value.none))) ha cls head:=by
  obtain ⟨ob,vs,x1,x2⟩:=hX
  exact ⟨ob,vs,(qah _ _ (Ne.symm nit)).trans x1,x2⟩
 show wpAny _ _ (newExc (.type "StopIteration") []>>=_) _ _ _
 refine qaW ?_
 simp only [newExc,newTuple]
 refine qaW (qaC ?_ (by size_fits))
 refine qaW (m:=firstArgMember _ _) (wpAny_of_eq (a:=Value.none) (by first | rfl | (simp only [firstArgMember];rfl)) ?_)
 refine qaC ?_ (by size_fits)
 obtain ⟨ob,vs,x1,x2⟩:=hX1
 have y1:=qag {cls:= .type "tuple",dict:=none,data:= .seq [].toArray} x1
 refine zdn (h:=ha) (cls:=cls) (head:=head) hh ⟨ob,vs,qag _ y1,x2⟩ (qar _ rfl) rfl (by simp;omega) (qaR (qaQ y1)) ?_
 refine qaW (wpAny_isInstance (T:="StopIteration") (b:=true) ⟨_,qal _ (qar _ rfl) rfl,rfl⟩ isSubtype_stop ?_)
 refine qaX (k _ fun b o hb z=> ?_)
 have z1:(s.heap.update it (Obj.mapFields (·.setIfInBounds 0 Value.none))).get? b=some o:=(qah _ _ (Ne.symm hb)).trans z
 have z2:=qag {cls:= .type "tuple",dict:=none,data:= .seq [].toArray} z1
 rw [qah _ _ (Nat.ne_of_gt (qaQ z2))]
 exact qag _ z2
theorem ziN {it l:Addr} {i:Nat} {items:Array Value} {Q:Option Value->Shared->Prop} (hh:zkX A s.heap) (hit:s.heap.IsTupleIter it l i) (hl:s.heap.IsTuple l items) (hx:items[i]? = none)
  (k: ∀ h',Heap.ExtBut it s.heap h'->Q none {s with heap:=h'}):wpAny (model prog w) A (pyNext (.ref it)) Q E s:=by
 rcases hh with hh | ⟨ha,cls,head,hh,hX⟩
 ·exact wpAny_pyNext_tuple_end hh hit hl hx k
 obtain ⟨o,h1,h2,h3⟩:=id hit
 obtain ⟨ol,l1,_,nl,l2⟩:=hl
 unfold pyNext
 refine qaW (wpAny_attempt (wpAny_callSpecial?_slot (name:=Str.ofString "__next__") hit.typeIs F.slot_tuple_iterator_next (wpAny_call_entry F.slot_tuple_iterator_next hit.typeIs F.entry_tuple_iterator_next ?_ (F.args_tuple_iterator_next_1 _))))
 show wpAny _ _ (field (.ref it) 0>>=_) _ _ s
 refine qaW (wpAny_field h1 h3 (x:= .ref l) rfl ?_)
 show wpAny _ _ (if (Value.ref l==Value.none)=true then _ else _) _ _ s
 rw [qa5 (show ¬(Value.ref l==Value.none)=true from nofun)]
 show wpAny _ _ (field (.ref it) 1>>=_) _ _ s
 refine qaW (wpAny_field h1 h3 (x:= .int i 0) rfl ?_)
 show wpAny _ _ (seqItems? (.ref l)>>=_) _ _ s
 refine qaW (wpAny_seqItems l1 l2 ?_)
 simp only [qaB,hx]
 refine qaW (wpAny_rule (qaW (wpAny_setField h1 h3 (by simp) ?_)))
 have nit:ha≠it:=fun z=>by
  subst z
  obtain ⟨ob,vs,x1,_,_,x4,x5,x6⟩:=hX
  rw [h1] at x1
  cases x1
  rw [h3] at x4
  cases x4
  simp at x5
 have hX1:zgK (s.heap.update it (Obj.mapFields (·.setIfInBounds 0 Value.none))) ha cls head:=by
  obtain ⟨ob,vs,x1,x2⟩:=hX
  exact ⟨ob,vs,(qah _ _ (Ne.symm nit)).trans x1,x2⟩
 show wpAny _ _ (newExc (.type "StopIteration") []>>=_) _ _ _
 refine qaW ?_
 simp only [newExc,newTuple]
 refine qaW (qaC ?_ (by size_fits))
 refine qaW (m:=firstArgMember _ _) (wpAny_of_eq (a:=Value.none) (by first | rfl | (simp only [firstArgMember];rfl)) ?_)
 refine qaC ?_ (by size_fits)
 obtain ⟨ob,vs,x1,x2⟩:=hX1
 have y1:=qag {cls:= .type "tuple",dict:=none,data:= .seq [].toArray} x1
 refine zdn (h:=ha) (cls:=cls) (head:=head) hh ⟨ob,vs,qag _ y1,x2⟩ (qar _ rfl) rfl (by simp;omega) (qaR (qaQ y1)) ?_
 refine qaW (wpAny_isInstance (T:="StopIteration") (b:=true) ⟨_,qal _ (qar _ rfl) rfl,rfl⟩ isSubtype_stop ?_)
 refine qaX (k _ fun b o hb z=> ?_)
 have z1:(s.heap.update it (Obj.mapFields (·.setIfInBounds 0 Value.none))).get? b=some o:=(qah _ _ (Ne.symm hb)).trans z
 have z2:=qag {cls:= .type "tuple",dict:=none,data:= .seq [].toArray} z1
 rw [qah _ _ (Nat.ne_of_gt (qaQ z2))]
 exact qag _ z2
theorem zj1 {it:Addr} {x left step:Int} {Q:Option Value->Shared->Prop} (hh:zkX A s.heap) (hit:IsRangeIter s.heap it x left step) (hleft:left<=0)
  (k: ∀ h',Heap.ExtBut it s.heap h'->Q none {s with heap:=h'}):wpAny (model prog w) A (pyNext (.ref it)) Q E s:=by
 rcases hh with hh | ⟨ha,cls,head,hh,hX⟩
 ·exact wpAny_pyNext_range_end hh hit hleft k
 have hT:s.TypeIs (.ref it) "range_iterator":=⟨_,hit,rfl⟩
 unfold pyNext
 refine qaW (wpAny_attempt (wpAny_callSpecial?_slot (name:=Str.ofString "__next__") hT F.slot_range_iterator_next (wpAny_call_entry F.slot_range_iterator_next hT F.entry_range_iterator_next ?_ (F.args_range_iterator_next_1 _))))
 show wpAny _ _ (field (.ref it) 0>>=_) _ _ s
 refine qaW (wpAny_field hit rfl (x:=rawInt x) rfl ?_)
 show wpAny _ _ (field (.ref it) 1>>=_) _ _ s
 refine qaW (wpAny_field hit rfl (x:=rawInt left) rfl ?_)
 show wpAny _ _ (field (.ref it) 2>>=_) _ _ s
 refine qaW (wpAny_field hit rfl (x:=rawInt step) rfl ?_)
 show wpAny _ _ (if left<=0 then _ else _) _ _ s
 rw [qa4 hleft]
 refine qaW (wpAny_rule (qaW ?_))
 show wpAny _ _ (newExc (.type "StopIteration") []>>=_) _ _ _
 refine qaW ?_
 simp only [newExc,newTuple]
 refine qaW (qaC ?_ (by size_fits))
 refine qaW (m:=firstArgMember _ _) (wpAny_of_eq (a:=Value.none) (by first | rfl | (simp only [firstArgMember];rfl)) ?_)
 refine qaC ?_ (by size_fits)
 obtain ⟨ob,vs,x1,x2⟩:=hX
 have y1:=qag {cls:= .type "tuple",dict:=none,data:= .seq [].toArray} x1
 refine zdn (h:=ha) (cls:=cls) (head:=head) hh ⟨ob,vs,qag _ y1,x2⟩ (qar _ rfl) rfl (by simp;omega) (qaR (qaQ y1)) ?_
 refine qaW (wpAny_isInstance (T:="StopIteration") (b:=true) ⟨_,qal _ (qar _ rfl) rfl,rfl⟩ isSubtype_stop ?_)
 refine qaX (k _ fun b o hb z=> ?_)
 have z2:=qag {cls:= .type "tuple",dict:=none,data:= .seq [].toArray} z
 rw [qah _ _ (Nat.ne_of_gt (qaQ z2))]
 exact qag _ z2
theorem zgK.keep {h h':Heap} {a:Addr} {cls head:Value} (x:zgK h a cls head) (k: ∀ o,h.get? a=some o->h'.get? a=some o):zgK h' a cls head:=by
 obtain ⟨ob,vs,x1,x2⟩:=x
 exact ⟨ob,vs,k _ x1,x2⟩
theorem zic {ha:Addr} {cls head:Value} (hh:A.handled=some (.ref ha)) (I ax:Addr) (hne:ax≠I) (hn2:ha≠I) (items:Array Value):
  Walks prog w A I [I,ax,ha] [I] items.size (fun i v=>items[i]? = some v) (fun i h=>h.IsListIter I ax i/\h.IsList ax items/\zgK h ha cls head) where
 sub:=fun b hb=>by simp at hb;simp [hb]
 frame:=fun _ _ _ st hk=>⟨st.1.at fun o e=>hk I (by simp) o e,st.2.1.at fun o e=>hk ax (by simp) o e,st.2.2.keep fun o e=>hk ha (by simp) o e⟩
 item:=fun i s Q E hi st hQ=>by
  refine wpAny_pyNext_list_item st.1 st.2.1 (x:=items[i]) (by simp [hi]) fun h' hit' hs'=> ?_
  exact hQ _ h' s.toks (by simp [hi]) ⟨hit',st.2.1.extBut hs'.extBut hne,st.2.2.keep fun o e=>hs'.extBut ha o hn2 e⟩ fun b o hb e=>hs'.extBut b o (fun h=>hb (by simp [h])) e
 done:=fun s Q E st hQ=>zg6 (.inr ⟨ha,cls,head,hh,st.2.2⟩) st.1 st.2.1 (by simp) fun h' he'=>hQ h' s.toks fun b o hb e=>he' b o (fun h=>hb (by simp [h])) e
 self:=fun _ _ _ _ st hQ=>wpAny_pyIter_listiter st.1 hQ
end
end L3
namespace L2
open PySem PySem.Spec PyProof.Rows
noncomputable abbrev Key:=Sum Int Str
noncomputable def zoz:Key->Value->Bool
 | .inl k,v=>Value.isInt k v
 | .inr x,v=>Value.isStrOf x v
noncomputable def zsk (w:World):Key->Int
 | .inl k=>hashInt k
 | .inr x=>hashStr w x
theorem zaL: ∀ {k:Key} {v:Value},zoz k v=true->(∃ i t,k=Sum.inl i/\v=Value.int i t)\/(∃ x t,k=Sum.inr x/\v=Value.str x t)
 | .inl i,v,h=>by
  obtain ⟨t,e⟩:=Value.isInt_shape (k:=i) (v:=v) h
  exact .inl ⟨i,t,rfl,e⟩
 | .inr x,v,h=>by
  obtain ⟨t,e⟩:=Value.isStrOf_shape (x:=x) (v:=v) h
  exact .inr ⟨x,t,rfl,e⟩
theorem zqg (a b:Int):decide ((Sum.inl a:Key)=Sum.inl b)=(a==b):=by
 by_cases e:a=b
 ·subst e;simp
 ·have h: ¬(Sum.inl a:Key)=Sum.inl b:=fun q=>e (Sum.inl.inj q)
  rw [decide_eq_false h]
  exact (beq_eq_false_iff_ne.mpr e).symm
theorem zoT (a b:Str):decide ((Sum.inr a:Key)=Sum.inr b)=decide (a=b):=by
 by_cases e:a=b
 ·subst e;simp
 ·have h: ¬(Sum.inr a:Key)=Sum.inr b:=fun q=>e (Sum.inr.inj q)
  rw [decide_eq_false h,decide_eq_false e]
theorem zqe (a:Int) (b:Str):decide ((Sum.inl a:Key)=Sum.inr b)=false:=decide_eq_false (fun q=>nomatch q)
theorem zpl (a:Str) (b:Int):decide ((Sum.inr a:Key)=Sum.inl b)=false:=decide_eq_false (fun q=>nomatch q)
noncomputable def zj6 (prog:Program) (w:World):PySem.KeyKind prog w Key where
 is:=zoz
 hash:=zsk w
 inj:=fun v a b ha hb=>by
  rcases zaL ha with ⟨i,t,rfl,rfl⟩ | ⟨x,t,rfl,rfl⟩
  ·rcases zaL hb with ⟨j,u,rfl,e⟩ | ⟨y,u,rfl,e⟩
   ·injection e with e1 _;rw [e1]
   ·exact nomatch e
  ·rcases zaL hb with ⟨j,u,rfl,e⟩ | ⟨y,u,rfl,e⟩
   ·exact nomatch e
   ·injection e with e1 _;rw [e1]
 byValue:=fun k v h=>by
  rcases zaL h with ⟨i,t,rfl,rfl⟩ | ⟨x,t,rfl,rfl⟩<;>rfl
 pyHash:=fun hv h=>by
  rcases zaL hv with ⟨i,t,rfl,rfl⟩ | ⟨x,t,rfl,rfl⟩
  ·exact wpAny_pyHash_int h
  ·exact wpAny_pyHash_str h
 eqBool:=fun hu hv h=>by
  rcases zaL hu with ⟨i,t,rfl,rfl⟩ | ⟨x,t,rfl,rfl⟩
  ·rcases zaL hv with ⟨j,u,rfl,rfl⟩ | ⟨y,u,rfl,rfl⟩
   ·rw [zqg] at h;exact wpAny_eqBool_int h
   ·rw [zqe] at h;exact SeqAt.EqAt.int_str i t y u _ _ _ _ h
  ·rcases zaL hv with ⟨j,u,rfl,rfl⟩ | ⟨y,u,rfl,rfl⟩
   ·rw [zpl] at h;exact SeqAt.EqAt.str_int x t j u _ _ _ _ h
   ·rw [zoT] at h;exact wpAny_eqBool_str h
 «strs» := fun k x t v h=>by
  rcases zaL h with ⟨i,u,rfl,e⟩ | ⟨y,u,rfl,e⟩
  ·exact nomatch e
  ·injection e with e1 _
   subst e1
   cases v<;>rfl
inductive V where
 | non | bl (b:Bool) | int (i:Int) | str (x:Str) | byt (b:Array UInt8) | flt (b:UInt64) | ref (a:Addr) | ty (n:String)
 deriving DecidableEq
noncomputable def zbg:V->Value->Prop
 | .non,u=>u=Value.none
 | .bl b,u=>u=Value.bool b
 | .int i,u=> ∃ t,u=Value.int i t
 | .str x,u=> ∃ t,u=Value.str x t
 | .byt b,u=> ∃ t,u=Value.bytes b t
 | .flt b,u=> ∃ t,u=Value.float b t
 | .ref a,u=>u=Value.ref a
 | .ty n,u=>u=Value.type n
noncomputable abbrev zaI:List V->List Value->Prop:=Paired zbg
theorem zaI.length {xs:List V} {us:List Value} (r:zaI xs us):xs.length=us.length:=Paired.length r
theorem zaI.get: ∀ {xs:List V} {us:List Value} {i:Nat} {x:V},zaI xs us->xs[i]? = some x-> ∃ u,us[i]? = some u/\zbg x u
 | _,_,_,_,.nil,e=>by simp at e
 | _,_,0,_,.cons r _,e=>by simp at e;subst e;exact ⟨_,rfl,r⟩
 | _,_,i+1,x,.cons _ t,e=>by
  obtain ⟨u,h1,h2⟩:=zaI.get (i:=i) (x:=x) t (by simpa using e)
  exact ⟨u,by simpa using h1,h2⟩
theorem zaI.set {x:V} {u:Value} (r:zbg x u): ∀ {xs:List V} {us:List Value} (i:Nat),zaI xs us->zaI (xs.set i x) (us.set i u)
 | _,_,_,.nil=> .nil
 | _,_,0,.cons _ t=> .cons r t
 | _,_,i+1,.cons q t=> .cons q (zaI.set r i t)
theorem zaI.append: ∀ {xs ys:List V} {us ws:List Value},zaI xs us->zaI ys ws->zaI (xs++ys) (us++ws)
 | _,_,_,_,.nil,s=>s
 | _,_,_,_,.cons r t,s=> .cons r (zaI.append t s)
theorem zaI.take: ∀ {xs:List V} {us:List Value} (n:Nat),zaI xs us->zaI (xs.take n) (us.take n)
 | _,_,0,_=> .nil
 | _,_,_+1,.nil=> .nil
 | _,_,n+1,.cons r t=> .cons r (zaI.take n t)
theorem zaI.drop: ∀ {xs:List V} {us:List Value} (n:Nat),zaI xs us->zaI (xs.drop n) (us.drop n)
 | _,_,0,r=>r
 | _,_,_+1,.nil=> .nil
 | _,_,n+1,.cons _ t=>zaI.drop n t
noncomputable def zrl:Option V->Option Value->Prop
 | some v,some u=>zbg v u
 | none,none=>True
 | _,_=>False
noncomputable def KV {κ:Type}:List (κ×V)->List (κ×Value)->Prop:=Paired fun (p:κ×V) (q:κ×Value)=>p.1=q.1/\zbg p.2 q.2
noncomputable def kV:Key->V
 | .inl i=> .int i
 | .inr x=> .str x
inductive HO where
 | lst (xs:List V)
 | tup (xs:List V)
 | dK (kvs:List (Key×V)) | dT (kvs:List (List Key×V))
 | set (S:Int->Bool) (n:Nat)
 | ins (C dx:Addr) (fs:List (Str×V))
 | own (x:Addr)
 | xd (fs:List (Str×V))
 | met (f x:Addr)
 | rng (lo hi:Int)
 | frz (o:Obj) (u:HO)
 | tbl (ps:Array Value)
 | ext (φ:Heap->Prop)
noncomputable abbrev Hp:=Addr->Option HO
noncomputable def upd (H:Hp) (a:Addr) (o:HO):Hp:=fun b=>if b=a then some o else H b
theorem zau {H:Hp} {a:Addr} {o:HO}:upd H a o a=some o:=by unfold upd;rw [qa4 rfl]
theorem zao {H:Hp} {a b:Addr} {o:HO} (h:b≠a):upd H a o b=H b:=by unfold upd;rw [qa5 h]
theorem zaB {H:Hp} {a b:Addr} {o:HO} (h:H a=some o) (h':H b=none):a≠b:=by
 intro e;subst e;rw [h] at h';cases h'
section
variable (P:Program) (w:World)
noncomputable def zbp (H:Hp) (h:Heap) (a:Addr):HO->Prop
 | .lst xs=>xs.length<=sizeLine/\ ∃ (its:List Value) (n:Nat),zaI xs its/\h.get? a=some {cls:= .type "list",data:= .seq its.toArray n}
 | .tup xs=>xs.length<=sizeLine/\ ∃ its:List Value,zaI xs its/\IsTup h a its.toArray
 | .dK kvs=>kvs.length<=sizeLine/\(a==sysModules)=false/\ ∃ vs,KV kvs vs/\h.DictOf (zj6 P w) a vs
 | .dT kvs=>kvs.length<=sizeLine/\(a==sysModules)=false/\ ∃ xs:List (List Key×Addr×Value),
   Paired (fun (p:List Key×V) (q:List Key×Addr×Value)=>p.1=q.1/\H q.2.1=some (.tup (p.1.map kV))/\zbg p.2 q.2.2) kvs xs/\
   ∃ o es ep,h.get? a=some o/\o.ExactDict/\o.data= .dict es ep/\es.toList=xs.map (entryOfKey (tupleKind (zj6 P w)))/\(xs.map (·.1)).Nodup
 | .set S n=>h.SetOf (intKind P w) a S n
 | .ins C dx fs=>H dx=some (.own a)/\fs.length<=1000/\dx≠a/\h.get? a=some (W.instObj C dx)/\
   ∃ mA,h.Ns1 dx mA/\(∀ f,zrl (fs.lookup f) (mA f))/\PySem.Within mA (fs.map (·.1))
 | .own _=> ∃ o,h.get? a=some o
 | .xd fs=> ∃ mA,h.Ns1 a mA/\ ∀ f,zrl (fs.lookup f) (mA f)
 | .rng lo hi=> ∃ t u v,h.get? a=some {cls:= .type "range",data:= .fields #[.int lo t,.int hi u,.int 1 v]}
 | .frz o u=>h.get? a=some o/\zbp H h a u
 | .tbl ps=>h.get? a=some {cls:= .none,data:= .fields ps}
 | .met f x=>h.get? a=some (W.methodObj (.ref f) (.ref x))
 | .ext φ=>φ h/\(∃ o,h.get? a=some o)/\ ∀ h1 h2:Heap,φ h1->(∀ o,h1.get? a=some o->h2.get? a=some o)->φ h2
def HOk (H:Hp) (h:Heap):Prop:= ∀ a o,H a=some o->zbp P w H h a o
end
section
variable {P:Program} {w:World} {H H':Hp} {h h':Heap} {a:Addr} {o:HO}
theorem zbp.lt (x:zbp P w H h a o):a<h.objs.size:=by
 cases o with
 | lst xs=>obtain ⟨_,_,_,_,e⟩:=x;exact qaQ e
 | tup xs=>obtain ⟨_,_,_,p⟩:=x;exact p.lt
 | dK kvs=>obtain ⟨_,_,_,_,o,_,_,e,_⟩:=x;exact qaQ e
 | dT kvs=>obtain ⟨_,_,_,_,o,_,_,e,_⟩:=x;exact qaQ e
 | set S n=>obtain ⟨o,_,_,_,e,_⟩:=x;exact qaQ e
 | ins C dx fs=>obtain ⟨_,_,_,e,_⟩:=x;exact qaQ e
 | own y=>obtain ⟨_,e⟩:=x;exact qaQ e
 | xd fs=>obtain ⟨_,⟨_,_,_,e,_⟩,_⟩:=x;exact qaQ e
 | rng lo hi=>obtain ⟨_,_,_,e⟩:=x;exact qaQ e
 | frz ob u=>obtain ⟨e,_⟩:=x;exact qaQ e
 | tbl ps=>exact qaQ (show h.get? a=some _ from x)
 | met f y=>exact qaQ (show h.get? a=some _ from x)
 | ext φ=>obtain ⟨_,⟨_,e⟩,_⟩:=x;exact qaQ e
theorem Paired.mapP {α β:Type} {F G:α->β->Prop}: ∀ {l₁:List α} {l₂:List β},Paired F l₁ l₂->(∀ a b,F a b->G a b)->Paired G l₁ l₂
 | _,_,.nil,_=> .nil
 | _,_,.cons r t,f=> .cons (f _ _ r) (Paired.mapP t f)
theorem zbp.stay (x:zbp P w H h a o) (k: ∀ b u,(b=a\/H b=some (.own a))->h.get? b=some u->h'.get? b=some u)
  (ho: ∀ b,H b=some (.own a)->H' b=some (.own a)) (ht: ∀ b xs,H b=some (.tup xs)->H' b=some (.tup xs)):zbp P w H' h' a o:=by
 induction o with
 | lst xs=>obtain ⟨z,its,n,r,e⟩:=x;exact ⟨z,its,n,r,k _ _ (.inl rfl) e⟩
 | tup xs=>obtain ⟨z,its,r,ob,e,c⟩:=x;exact ⟨z,its,r,ob,k _ _ (.inl rfl) e,c⟩
 | dK kvs=>obtain ⟨z,y,vs,r,ob,es,ep,e,c⟩:=x;exact ⟨z,y,vs,r,ob,es,ep,k _ _ (.inl rfl) e,c⟩
 | dT kvs=>
  obtain ⟨z,y,xs,r,ob,es,ep,e,c⟩:=x
  exact ⟨z,y,xs,Paired.mapP r fun p q z=>⟨z.1,ht _ _ z.2.1,z.2.2⟩,ob,es,ep,k _ _ (.inl rfl) e,c⟩
 | set S n=>obtain ⟨ob,es,ep,t,e,c⟩:=x;exact ⟨ob,es,ep,t,k _ _ (.inl rfl) e,c⟩
 | ins C dx fs=>
  obtain ⟨d,z,ne,e,mA,⟨od,es,ep,e2,c⟩,r⟩:=x
  exact ⟨ho _ d,z,ne,k _ _ (.inl rfl) e,mA,⟨od,es,ep,k _ _ (.inr d) e2,c⟩,r⟩
 | own y=>obtain ⟨ob,e⟩:=x;exact ⟨ob,k _ _ (.inl rfl) e⟩
 | xd fs=>obtain ⟨mA,⟨od,es,ep,e,c⟩,r⟩:=x;exact ⟨mA,⟨od,es,ep,k _ _ (.inl rfl) e,c⟩,r⟩
 | rng lo hi=>obtain ⟨t,u,v,e⟩:=x;exact ⟨t,u,v,k _ _ (.inl rfl) e⟩
 | frz ob u ih=>obtain ⟨e,q⟩:=x;exact ⟨k _ _ (.inl rfl) e,ih q⟩
 | tbl ps=>
  have e:h.get? a=some {cls:= .none,data:= .fields ps}:=x
  show h'.get? a=some {cls:= .none,data:= .fields ps}
  exact k a _ (.inl rfl) e
 | met f y=>
  have e:h.get? a=some (W.methodObj (.ref f) (.ref y)):=x
  show h'.get? a=some (W.methodObj (.ref f) (.ref y))
  exact k a _ (.inl rfl) e
 | ext φ=>obtain ⟨p,⟨o,e⟩,st⟩:=x;exact ⟨st _ _ p fun o q=>k _ _ (.inl rfl) q,⟨o,k _ _ (.inl rfl) e⟩,st⟩
theorem HOk.lt (x:HOk P w H h) (e:H a=some o):a<h.objs.size:=(x a o e).lt
theorem HOk.fresh (x:HOk P w H h) (e:h.objs.size<=a):H a=none:=by
 cases q:H a with
 | none=>rfl
 | some u=>exact absurd (qaw (x.lt q) e) (qaN _)
theorem HOk.kept (x:HOk P w H h) (k: ∀ b u,h.get? b=some u->h'.get? b=some u):HOk P w H h':=fun a o e=>
 (x a o e).stay (fun b u _ q=>k b u q) (fun _ q=>q) fun _ _ q=>q
theorem HOk.laid (x:HOk P w H h) (k: ∀ b u,h.get? b=some u->h'.get? b=some u) (hp:h.objs.size<=a) (new:zbp P w (upd H a o) h' a o):HOk P w (upd H a o) h':=fun b u e=>by
 have hn:=x.fresh hp
 by_cases hb:b=a
 ·subst hb;rw [zau] at e;cases e;exact new
 ·rw [zao hb] at e
  exact (x b u e).stay (fun c v _ q=>k c v q) (fun c q=>by rw [zao (zaB q hn)];exact q) fun c xs q=>by rw [zao (zaB q hn)];exact q
end
def Rd (H:Hp) (a:Addr) (u:HO):Prop:=H a=some u\/ ∃ o,H a=some (.frz o u)
theorem Rd.of {H:Hp} {a:Addr} {u:HO} (h:H a=some u):Rd H a u:= .inl h
theorem Rd.ok {P:Program} {w:World} {H:Hp} {h:Heap} {a:Addr} {u:HO} (r:Rd H a u) (x:HOk P w H h):zbp P w H h a u:=by
 rcases r with r | ⟨o,r⟩
 ·exact x a u r
 ·obtain ⟨_,q⟩:=x a _ r
  exact q
noncomputable def Mut:Option HO->Prop
 | some (.lst _)=>True
 | some (.dK _)=>True
 | some (.dT _)=>True
 | some (.set _ _)=>True
 | some (.ins _ _ _)=>True
 | some (.ext _)=>True
 | _=>False
section
variable {P:Program} {w:World} {H:Hp} {h h':Heap} {x e:Addr} {o':HO}
theorem HOk.write (ok:HOk P w H h) (mu:Mut (H x)) (he:e=x\/H e=some (.own x)) (k: ∀ b u,b≠e->h.get? b=some u->h'.get? b=some u) (heo: ∃ u,h'.get? e=some u)
  (new:zbp P w (upd H x o') h' x o'):HOk P w (upd H x o') h':=fun b u q=>by
 have nown: ∀ c y,H c=some (.own y)->c≠x:=fun c y r z=>by subst z;rw [r] at mu;exact mu
 have ntup: ∀ c xs,H c=some (.tup xs)->c≠x:=fun c xs r z=>by subst z;rw [r] at mu;exact mu
 by_cases hb:b=x
 ·subst hb;rw [zau] at q;cases q;exact new
 ·rw [zao hb] at q
  by_cases hbe:b=e
  ·have q':H b=some (.own x):=by
    rcases he with z | z
    ·exact absurd (hbe.trans z) hb
    ·rw [hbe];exact z
   rw [q] at q';cases q'
   obtain ⟨v,hv⟩:=heo
   exact ⟨v,by rw [hbe];exact hv⟩
  ·refine (ok b u q).stay (fun c v hc r=>k c v ?_ r) (fun c r=>by rw [zao (nown c b r)];exact r) fun c xs r=>by rw [zao (ntup c xs r)];exact r
   rcases hc with rfl | hc
   ·exact hbe
   ·rintro rfl
    rcases he with z | z
    ·exact nown c b hc z
    ·rw [hc] at z;cases z;exact hb rfl
end
structure Un (fs ex:List Addr) (H H':Hp) (h h':Heap):Prop where
 keep: ∀ b o,h.get? b=some o->H b=none->b∉fs->b∉ex->h'.get? b=some o
 slot: ∀ b o,h.get? b=some o->H b=none->b∈fs->b∉ex-> ∃ sl,h'.get? b=some {o with slots:=sl}
 free: ∀ b o,h.get? b=some o->H b=none->b∉ex->H' b=none
 there: ∀ b o,h.get? b=some o->b∉ex-> ∃ o',h'.get? b=some o'
 tups: ∀ b xs,H b=some (.tup xs)->H' b=some (.tup xs)
 frzs: ∀ b o u,H b=some (.frz o u)->H' b=some (.frz o u)
 tbls: ∀ b ps,H b=some (.tbl ps)-> ∃ more,H' b=some (.tbl (ps++more))
section
variable {fs fs' ex ex':List Addr} {H H1 H2:Hp} {h h1 h2 h':Heap} {a x e:Addr} {o:HO}
theorem Un.any (u:Un fs ex H H1 h h1) {b:Addr} {ob:Obj} (q:h.get? b=some ob) (n:H b=none) (hx:b∉ex): ∃ sl,h1.get? b=some {ob with slots:=sl}:=by
 by_cases hb:b∈fs
 ·exact u.slot b ob q n hb hx
 ·exact ⟨ob.slots,u.keep b ob q n hb hx⟩
theorem Un.trans (a:Un fs ex H H1 h h1) (b:Un fs ex H1 H2 h1 h2):Un fs ex H H2 h h2 where
 keep:=fun c ob q n hc hx=>b.keep c ob (a.keep c ob q n hc hx) (a.free c ob q n hx) hc hx
 slot:=fun c ob q n hc hx=>by
  obtain ⟨sl,e1⟩:=a.slot c ob q n hc hx
  obtain ⟨sl',e2⟩:=b.slot c _ e1 (a.free c ob q n hx) hc hx
  exact ⟨sl',e2⟩
 free:=fun c ob q n hx=>by
  obtain ⟨o',e1⟩:=a.there c ob q hx
  exact b.free c o' e1 (a.free c ob q n hx) hx
 there:=fun c ob q hx=>by
  obtain ⟨o',e1⟩:=a.there c ob q hx
  exact b.there c o' e1 hx
 tups:=fun c xs q=>b.tups c xs (a.tups c xs q)
 frzs:=fun c ob xs q=>b.frzs c ob xs (a.frzs c ob xs q)
 tbls:=fun c ps q=>by
  obtain ⟨m1,e1⟩:=a.tbls c ps q
  obtain ⟨m2,e2⟩:=b.tbls c _ e1
  exact ⟨m1++m2,by rw [e2,Array.append_assoc]⟩
theorem Un.kept (k: ∀ b u,h.get? b=some u->h'.get? b=some u):Un fs ex H H h h':=
 ⟨fun b ob q _ _ _=>k b ob q,fun b ob q _ _ _=>⟨ob.slots,k b ob q⟩,fun _ _ _ n _=>n,fun b ob q _=>⟨ob,k b ob q⟩,fun _ _ q=>q,fun _ _ _ q=>q,fun _ ps q=>⟨#[],by rw [q];simp⟩⟩
theorem Un.refl:Un fs ex H H h h:=Un.kept fun _ _ q=>q
theorem Un.laid (k: ∀ b u,h.get? b=some u->h'.get? b=some u) (hp:h.objs.size<=a) (hn:H a=none):Un fs ex H (upd H a o) h h' where
 keep:=fun b u q _ _ _=>k b u q
 slot:=fun b u q _ _ _=>⟨u.slots,k b u q⟩
 free:=fun b u q n _=>by rw [zao (qaR (qaw (qaQ q) hp))];exact n
 there:=fun b u q _=>⟨u,k b u q⟩
 tups:=fun b xs q=>by rw [zao (zaB q hn)];exact q
 frzs:=fun b u xs q=>by rw [zao (zaB q hn)];exact q
 tbls:=fun b ps q=>⟨#[],by rw [zao (zaB q hn),q];simp⟩
theorem Un.write (mu:Mut (H x)) (he:e=x\/H e=some (.own x)) (k: ∀ b u,b≠e->h.get? b=some u->h'.get? b=some u) (heo: ∃ u,h'.get? e=some u):Un fs ex H (upd H x o) h h':=by
 have hx: ∀ b,H b=none->b≠x:=fun b n z=>by subst z;rw [n] at mu;exact mu
 have hb: ∀ b,H b=none->b≠e:=fun b n z=>by
  subst z
  rcases he with r | r
  ·exact hx b n r
  ·rw [n] at r;cases r
 have hm: ∀ b u,H b=some u-> ¬Mut (some u)->b≠x:=fun b u q nm z=>by subst z;rw [q] at mu;exact nm mu
 refine ⟨fun b u q n _ _=>k b u (hb b n) q,fun b u q n _ _=>⟨u.slots,k b u (hb b n) q⟩,fun b u q n _=>by rw [zao (hx b n)];exact n,fun b u q _=> ?_,
   fun b xs q=>by rw [zao (hm b _ q fun z=>z)];exact q,fun b u xs q=>by rw [zao (hm b _ q fun z=>z)];exact q,fun b ps q=>⟨#[],by rw [zao (hm b _ q fun z=>z),q];simp⟩⟩
 by_cases hbe:b=e
 ·subst hbe;exact heo
 ·exact ⟨u,k b u hbe q⟩
theorem Un.mono (u:Un fs ex H H1 h h1) (hs: ∀ b∈fs,b∈fs') (hx: ∀ b∈ex,b∈ex'):Un fs' ex' H H1 h h1:=
 ⟨fun b ob q n hb he=>u.keep b ob q n (fun z=>hb (hs b z)) fun z=>he (hx b z),fun _ _ q n _ he=>u.any q n fun z=>he (hx _ z),fun b ob q n he=>u.free b ob q n fun z=>he (hx b z),fun b ob q he=>u.there b ob q fun z=>he (hx b z),u.tups,u.frzs,u.tbls⟩
end
noncomputable def trk (h:Heap) (H:Hp):List Addr:=(List.range h.objs.size).filter fun a=>(H a).isSome
noncomputable def zkt (h:Heap) (H:Hp):Heap:=W.hideAll h (trk h H)
theorem zjV (h:Heap) (H:Hp):(zkt h H).objs.size=h.objs.size:=W.hideAll_size _ _
theorem zki {h:Heap} {H:Hp} {b:Addr} {o:Obj} (e:h.get? b=some o) (n:H b=none):(zkt h H).get? b=some o:=
 W.hideAll_get _ e fun hm=>by
  have q:(H b).isSome=true:=(List.mem_filter.mp hm).2
  rw [n] at q;simp at q
theorem zmE {h:Heap} {H:Hp} {b:Addr} {o:Obj} (e:(zkt h H).get? b=some o):h.get? b=some o/\H b=none:=by
 have e':h.get? b=some o:=W.of_hideAll (trk h H) e
 refine ⟨e',?_⟩
 cases q:H b with
 | none=>rfl
 | some x=>
  have hm:b∈trk h H:=List.mem_filter.mpr ⟨List.mem_range.mpr (qaQ e'),by simp [q]⟩
  have z:(zkt h H).get? b=none:=W.hideAll_none (trk h H) hm
  rw [z] at e;cases e
noncomputable def znA (g h:Heap) (L:Addr):List (Addr×Obj):=(List.range h.objs.size).filterMap fun a=>if a=L\/(g.get? a).isSome=true then none else (h.get? a).map fun o=>(a,o)
noncomputable def rest (g h:Heap) (L d:Addr):List (Addr×Obj):=(znA g h L).filter fun p=>decide (p.1≠d)
structure Mod (K:W.Frag) (mg:Str->Option Value) (base:Heap):Prop where
 kin:K.In base
 glob:base.Ns mainGlobals mg
 blt: ∃ mb,base.Ns builtinsNs mb/\ ∀ x:Str,x≠"__name__"->mb x=bootBuiltins x
 nolimit:base.NoLimit
structure Cx where
 prog:Program
 w:World
 K:W.Frag
 mg:Str->Option Value
 base:Heap
 A:Around
 N:List Str
 s₀:Shared
 H₀:Hp
 env:Env
 outer:List Env
 stack:List Env
 ex:List Addr
 fn:Str->Bool
 calm:Bool
 pn:List (Addr×Obj)
 xe:Value->Shared->Prop
noncomputable def frs (l:List Env):List Addr:=l.filterMap (·.frame)
noncomputable abbrev Cx.fs (X:Cx):List Addr:=frs X.outer
def Vis (sc:Scope) (x:Str):Prop:=sc.names.lookup x=some .local\/sc.names.lookup x=some .cell\/sc.names.lookup x=some .free
def Loc (sc:Scope) (x:Str):Prop:=sc.names.lookup x=some .local\/sc.names.lookup x=some .cell
def zsA (env:Env) (h:Heap) (m:Str->Option Value) (x:Str) (u:Value):Prop:=
 (env.kindOf x=some .local/\m x=some u)\/((env.kindOf x=some .cell\/env.kindOf x=some .free)/\ ∃ c,env.cells.lookup x=some c/\h.IsCell c (some u))
def zfy (A:Around) (H:Hp):Prop:=A.handled=none\/ ∃ a o cls head vs,A.handled=some (.ref a)/\H a=some (.frz o (.own 0))/\o.cls=cls/\o.dict=none/\o.data= .fields vs/\vs[2]? = some .none/\vs[1]? = some head
structure Cx.Ok (X:Cx):Prop where
 mod:Mod X.K X.mg X.base
 kind:X.env.scope.kind= .function
 glob:X.env.globals=mainGlobals
 blt:X.env.builtins=builtinsNs
 above:X.s₀.heap.objs.size<=X.env.locals
 inj: ∀ x y c,X.env.cells.lookup x=some c->X.env.cells.lookup y=some c->x=y
 has: ∀ x,(X.env.kindOf x=some .cell\/X.env.kindOf x=some .free)-> ∃ c,X.env.cells.lookup x=some c
 cab: ∀ x c,X.fn x=true->X.env.cells.lookup x=some c->X.s₀.heap.objs.size<=c
 hd:X.calm=true->X.A.handled=none
 hx:zfy X.A X.H₀
 frames:X.A.frames=some X.stack
 stk:X.stack=X.outer\/(X.stack=X.env::X.outer/\X.env.frame=some X.env.locals)
 exf: ∀ b∈X.ex,b≠X.env.locals/\ ∀ x c,X.env.cells.lookup x=some c->c≠b
 bs: ∀ b o,X.base.get? b=some o->X.s₀.heap.get? b=some o/\X.H₀ b=none
 bsz:X.base.objs.size<=X.s₀.heap.objs.size
 noex: ∀ b o,X.base.get? b=some o->b∉X.ex
 exfs: ∀ b∈X.ex,b∉X.fs
 funs:X.s₀.heap.FunFrames X.base X.outer
 frf: ∀ b∈X.fs,X.H₀ b=none
structure Inv (X:Cx) (pins:List (Addr×Obj)) (σ:List (Option V)) (H:Hp) (s:Shared):Prop where
 ok:X.Ok
 os:s.os=X.s₀.os
 bare:AllBare s.gens
 base:Un X.fs X.ex X.H₀ H X.s₀.heap s.heap
 loc: ∃ m,s.heap.Ns X.env.locals m/\ ∀ (i:Nat) (x:Str) (v:V),X.N[i]? = some x->σ[i]? = some (some v)->Vis X.env.scope x-> ∃ u,zbg v u/\zsA X.env s.heap m x u
 cell: ∀ x c,X.env.cells.lookup x=some c-> ∃ v,s.heap.IsCell c v
 free:H X.env.locals=none
 freeC: ∀ x c,X.env.cells.lookup x=some c->H c=none
 pin: ∀ p∈X.pn++pins,s.heap.get? p.1=some p.2/\H p.1=none/\p.1≠X.env.locals/\p.1∉X.fs/\ ∀ v,p.2.data≠ .cell v
 hok:HOk X.prog X.w H s.heap
 len:σ.length=X.N.length
section
variable {X:Cx} {pins:List (Addr×Obj)} {σ:List (Option V)} {H H':Hp} {s:Shared} {h':Heap}
theorem Cx.Ok.nofr (ok:X.Ok) {b:Addr} {o:Obj} (e:X.base.get? b=some o):b∉X.fs:=fun hb=>by
 have:=(ok.funs.mem hb).1
 rw [e] at this;cases this
theorem Inv.bs (I:Inv X pins σ H s): ∀ b o,X.base.get? b=some o->s.heap.get? b=some o/\H b=none:=fun b o e=>
 ⟨I.base.keep b o (I.ok.bs b o e).1 (I.ok.bs b o e).2 (I.ok.nofr e) (I.ok.noex b o e),I.base.free b o (I.ok.bs b o e).1 (I.ok.bs b o e).2 (I.ok.noex b o e)⟩
theorem Inv.bk (I:Inv X pins σ H s): ∀ b o,X.base.get? b=some o->s.heap.get? b=some o:=fun b o e=>(I.bs b o e).1
theorem Inv.mod (I:Inv X pins σ H s):Mod X.K X.mg X.base:=I.ok.mod
theorem Inv.kIn (I:Inv X pins σ H s):X.K.In s.heap:=I.ok.mod.kin.keeps I.bk
theorem Inv.nolimit (I:Inv X pins σ H s):s.heap.NoLimit:=I.ok.mod.nolimit.keeps I.bk
theorem Inv.fr (I:Inv X pins σ H s): ∃ m,Fr X.base X.env.locals s.heap m:=
 let ⟨m,hn,_⟩:=I.loc
 ⟨m,hn,I.bk,qaS I.ok.bsz I.ok.above⟩
theorem Inv.lt (I:Inv X pins σ H s):X.env.locals<s.heap.objs.size:=let ⟨_,hn,_⟩:=I.loc;hn.lt
theorem Inv.sz (I:Inv X pins σ H s):X.s₀.heap.objs.size<=s.heap.objs.size:=qaS I.ok.above (Nat.le_of_lt I.lt)
theorem Inv.nofs (I:Inv X pins σ H s) {a:Addr} (h:s.heap.objs.size<=a):a∉X.fs:=fun hb=>by
 obtain ⟨_,o,ho,_⟩:=I.ok.funs.mem hb
 exact absurd (qaw (qaQ ho) (qaS I.sz h)) (qaN _)
theorem Inv.cne (I:Inv X pins σ H s): ∀ x c,X.env.cells.lookup x=some c->c≠X.env.locals:=fun x c e z=>by
 obtain ⟨v,o,ho,hd⟩:=I.cell x c e
 obtain ⟨m,⟨o',es,ep,ho',hd',_⟩,_⟩:=I.loc
 rw [z,ho'] at ho;cases ho;rw [hd'] at hd;cases hd
theorem Inv.funs (I:Inv X pins σ H s):s.heap.FunFrames X.base X.outer:=by
 have all: ∀ (l:List Env),(∀ b∈frs l,b∈X.fs)->X.s₀.heap.FunFrames X.base l->s.heap.FunFrames X.base l:=by
  intro l
  induction l with
  | nil=>intro _ _;trivial
  | cons env r ih=>
   intro hs hl
   obtain ⟨hk,⟨L,o,hf,hn,ho,hd⟩,hr⟩:=hl
   have hL:L∈X.fs:=hs L (by unfold frs;rw [qat,hf];exact qau)
   obtain ⟨sl,e⟩:=I.base.slot L o ho (I.ok.frf L hL) hL fun z=>I.ok.exfs L z hL
   exact ⟨hk,⟨L,_,hf,hn,e,hd⟩,ih (fun b hb=>hs b (by unfold frs;rw [qat,hf];exact qan _ hb)) hr⟩
 exact all X.outer (fun _ hb=>hb) I.ok.funs
theorem Inv.stack (I:Inv X pins σ H s):s.heap.FunFrames X.base X.stack:=by
 rcases I.ok.stk with e | ⟨e,hf⟩
 ·rw [e];exact I.funs
 ·rw [e]
  obtain ⟨m,hn,_⟩:=I.loc
  refine .cons (by rw [I.ok.kind];decide) hf hn ?_ I.funs
  exact Heap.get?_none_of_le (qaS I.ok.bsz I.ok.above)
theorem Inv.stkSub (I:Inv X pins σ H s): ∀ b∈frs X.stack,b∈X.env.locals::X.fs:=fun b hb=>by
 rcases I.ok.stk with e | ⟨e,hf⟩
 ·rw [e] at hb;exact qan _ hb
 ·rw [e] at hb
  unfold frs at hb
  rw [qat,hf] at hb
  exact hb
theorem Inv.stkFree (I:Inv X pins σ H s): ∀ b∈frs X.stack,H b=none:=fun b hb=>by
 rcases qaP.mp (I.stkSub b hb) with e | hb
 ·rw [e];exact I.free
 ·obtain ⟨_,o,ho,_⟩:=I.ok.funs.mem hb
  exact I.base.free b o ho (I.ok.frf b hb) fun z=>I.ok.exfs b z hb
theorem Inv.step {g':Array GenState} {t':Nat} {d':Drawn} {ch:List Addr} (I:Inv X pins σ H s)
  (hch: ∀ b∈ch,(b∈X.ex\/X.s₀.heap.objs.size<=b)/\b≠X.env.locals/\(∀ x c,X.env.cells.lookup x=some c->c≠b)/\ ∀ p∈X.pn++pins,p.1≠b)
  (keep: ∀ b o,b≠X.env.locals->b∉X.fs->b∉ch->s.heap.get? b=some o->H b=none->h'.get? b=some o)
  (slot: ∀ b o,b≠X.env.locals->b∈X.fs->b∉ch->s.heap.get? b=some o->H b=none-> ∃ sl,h'.get? b=some {o with slots:=sl}) (free: ∀ b o,b∉ch->s.heap.get? b=some o->H b=none->H' b=none)
  (there: ∀ b o,b∉ch->s.heap.get? b=some o-> ∃ o',h'.get? b=some o')
  (tups: ∀ b xs,H b=some (.tup xs)->H' b=some (.tup xs)) (frzs: ∀ b o u,H b=some (.frz o u)->H' b=some (.frz o u)) (tbls: ∀ b ps,H b=some (.tbl ps)-> ∃ more,H' b=some (.tbl (ps++more)))
  (ns: ∀ m,s.heap.Ns X.env.locals m->h'.Ns X.env.locals m) (hok:HOk X.prog X.w H' h') (hg:AllBare g'):
  Inv X pins σ H' {s with heap:=h',gens:=g',drawn:=d',toks:=t'}:=by
 have neL: ∀ b o,X.s₀.heap.get? b=some o->b≠X.env.locals:=fun b o e=>qaR (qaw (qaQ e) I.ok.above)
 have neC: ∀ b o,X.s₀.heap.get? b=some o->b∉X.ex->b∉ch:=fun b o e hx hb=>by
  rcases (hch b hb).1 with z | z
  ·exact hx z
  ·exact absurd (qaw (qaQ e) z) (qaN _)
 have cellK: ∀ x c,X.env.cells.lookup x=some c-> ∀ v,s.heap.IsCell c v->h'.IsCell c v:=fun x c e v ⟨o,ho,hd⟩=>by
  have nch:c∉ch:=fun z=>(hch c z).2.2.1 x c e rfl
  by_cases hc:c∈X.fs
  ·obtain ⟨sl,q⟩:=slot c o (I.cne x c e) hc nch ho (I.freeC x c e)
   exact ⟨_,q,hd⟩
  ·exact ⟨o,keep c o (I.cne x c e) hc nch ho (I.freeC x c e),hd⟩
 refine ⟨I.ok,I.os,hg,⟨fun b o e n hb hx=> ?_,fun b o e n hb hx=> ?_,fun b o e n hx=> ?_,fun b o e hx=> ?_,fun b xs e=>tups b xs (I.base.tups b xs e),fun b o xs e=>frzs b o xs (I.base.frzs b o xs e),fun b ps e=> ?_⟩,?_,fun x c e=> ?_,?_,fun x c e=> ?_,fun p hp=> ?_,hok,I.len⟩
 ·exact keep b o (neL b o e) hb (neC b o e hx) (I.base.keep b o e n hb hx) (I.base.free b o e n hx)
 ·obtain ⟨sl,e1⟩:=I.base.slot b o e n hb hx
  obtain ⟨sl',e2⟩:=slot b _ (neL b o e) hb (neC b o e hx) e1 (I.base.free b o e n hx)
  exact ⟨sl',e2⟩
 ·obtain ⟨o',e1⟩:=I.base.there b o e hx
  exact free b o' (neC b o e hx) e1 (I.base.free b o e n hx)
 ·obtain ⟨o',e1⟩:=I.base.there b o e hx
  exact there b o' (neC b o e hx) e1
 ·obtain ⟨m1,e1⟩:=I.base.tbls b ps e
  obtain ⟨m2,e2⟩:=tbls b _ e1
  exact ⟨m1++m2,by rw [e2,Array.append_assoc]⟩
 ·obtain ⟨m,hn,hl⟩:=I.loc
  refine ⟨m,ns m hn,fun i x v e1 e2 e3=> ?_⟩
  obtain ⟨u,r,l⟩:=hl i x v e1 e2 e3
  refine ⟨u,r,?_⟩
  rcases l with l | ⟨k,c,e,z⟩
  ·exact .inl l
  ·exact .inr ⟨k,c,e,cellK x c e _ z⟩
 ·obtain ⟨v,z⟩:=I.cell x c e
  exact ⟨v,cellK x c e v z⟩
 ·obtain ⟨m,⟨o,_,_,ho,_⟩,_⟩:=I.loc
  exact free _ o (fun z=>(hch _ z).2.1 rfl) ho I.free
 ·obtain ⟨v,o,ho,hd⟩:=I.cell x c e
  exact free c o (fun z=>(hch c z).2.2.1 x c e rfl) ho (I.freeC x c e)
 ·obtain ⟨e,n,ne,nf,d⟩:=I.pin p hp
  have nch:p.1∉ch:=fun z=>(hch p.1 z).2.2.2 p hp rfl
  exact ⟨keep p.1 p.2 ne nf nch e n,free p.1 p.2 nch e n,ne,nf,d⟩
theorem Inv.un {t':Nat} (I:Inv X pins σ H s) (u:Un X.fs [] H H' s.heap h') (hok:HOk X.prog X.w H' h'):Inv X pins σ H' {s with heap:=h',toks:=t'}:=by
 obtain ⟨m,⟨o,es,ep,ho,r⟩,_⟩:=id I.loc
 obtain ⟨sl,hL⟩:=u.any ho I.free (by simp)
 exact I.step (g':=s.gens) (d':=s.drawn) (ch:=[]) (fun _ z=>nomatch z) (fun b o _ hb _ e n=>u.keep b o e n hb (by simp)) (fun b o _ hb _ e n=>u.slot b o e n hb (by simp)) (fun b o _ e n=>u.free b o e n (by simp)) (fun b o _ e=>u.there b o e (by simp)) u.tups u.frzs u.tbls (fun m' hm=>by
   obtain ⟨o',es',ep',ho',r'⟩:=hm
   rw [ho] at ho';cases ho'
   exact ⟨_,es',ep',hL,r'⟩) hok I.bare
theorem Inv.call {g':Array GenState} {t':Nat} {d':Drawn} {ch:List Addr} (I:Inv X pins σ H s) (u:Un (frs X.stack) ch H H' s.heap h') (hok:HOk X.prog X.w H' h') (hg:AllBare g')
  (hch: ∀ b∈ch,(b∈X.ex\/X.s₀.heap.objs.size<=b)/\b≠X.env.locals/\(∀ x c,X.env.cells.lookup x=some c->c≠b)/\ ∀ p∈X.pn++pins,p.1≠b):
  Inv X pins σ H' {s with heap:=h',gens:=g',drawn:=d',toks:=t'}:=by
 obtain ⟨m,⟨o,es,ep,ho,r⟩,_⟩:=id I.loc
 obtain ⟨sl,hL⟩:=u.any ho I.free fun z=>(hch _ z).2.1 rfl
 exact I.step (ch:=ch) hch (fun b o hL hb hc e n=>u.keep b o e n (fun z=>(qaP.mp (I.stkSub b z)).elim hL hb) hc) (fun b o _ _ hc e n=>u.any e n hc) (fun b o hc e n=>u.free b o e n hc) (fun b o hc e=>u.there b o e hc) u.tups u.frzs u.tbls (fun m' hm=>by
   obtain ⟨o',es',ep',ho',r'⟩:=hm
   rw [ho] at ho';cases ho'
   exact ⟨_,es',ep',hL,r'⟩) hok hg
theorem Inv.turned {t':Nat} {it:Addr} (I:Inv X pins σ H s) (k: ∀ b o,b≠it->s.heap.get? b=some o->h'.get? b=some o) (hn:H it=none) (hL:it≠X.env.locals)
  (h1:it∈X.ex\/X.s₀.heap.objs.size<=it) (h2: ∀ x c,X.env.cells.lookup x=some c->c≠it) (h3: ∀ p∈X.pn++pins,p.1≠it):Inv X pins σ H {s with heap:=h',toks:=t'}:=by
 have nit: ∀ b u,H b=some u->b≠it:=fun b u e z=>by rw [z,hn] at e;cases e
 refine I.step (g':=s.gens) (d':=s.drawn) (ch:=[it]) (fun b hb=> ?_) (fun b o _ _ hc e _=>k b o (fun z=>hc (by simp [z])) e) (fun b o _ _ hc e _=>⟨o.slots,k b o (fun z=>hc (by simp [z])) e⟩) (fun _ _ _ _ n=>n)
  (fun b o hc e=>⟨o,k b o (fun z=>hc (by simp [z])) e⟩) (fun _ _ e=>e) (fun _ _ _ e=>e) (fun b ps e=>⟨#[],by rw [e];simp⟩) (fun m hm=> ?_) (fun b u e=> ?_) I.bare
 ·have e:b=it:=by simpa using hb
  subst e
  exact ⟨h1,hL,h2,h3⟩
 ·obtain ⟨o,es,ep,ho,r⟩:=hm
  exact ⟨o,es,ep,k _ o (Ne.symm hL) ho,r⟩
 ·refine (I.hok b u e).stay (fun c v hc q=>k c v ?_ q) (fun _ q=>q) fun _ _ q=>q
  rcases hc with z | z
  ·rw [z];exact nit b u e
  ·exact nit c _ z
theorem Inv.tok (I:Inv X pins σ H s) (t:Nat):Inv X pins σ H {s with toks:=t}:=I.un (h':=s.heap) (t':=t) Un.refl I.hok
theorem Inv.kept {t':Nat} (I:Inv X pins σ H s) (k: ∀ b u,s.heap.get? b=some u->h'.get? b=some u):Inv X pins σ H {s with heap:=h',toks:=t'}:=I.un (Un.kept k) (I.hok.kept k)
theorem Inv.laid {a:Addr} {o:HO} {t':Nat} (I:Inv X pins σ H s) (k: ∀ b u,s.heap.get? b=some u->h'.get? b=some u) (hp:s.heap.objs.size<=a) (new:zbp X.prog X.w (upd H a o) h' a o):
  Inv X pins σ (upd H a o) {s with heap:=h',toks:=t'}:=I.un (Un.laid k hp (I.hok.fresh hp)) (I.hok.laid k hp new)
theorem Inv.write {x e:Addr} {o:HO} {t':Nat} (I:Inv X pins σ H s) (mu:Mut (H x)) (he:e=x\/H e=some (.own x)) (k: ∀ b u,b≠e->s.heap.get? b=some u->h'.get? b=some u) (heo: ∃ u,h'.get? e=some u)
  (new:zbp X.prog X.w (upd H x o) h' x o):Inv X pins σ (upd H x o) {s with heap:=h',toks:=t'}:=I.un (Un.write mu he k heo) (I.hok.write mu he k heo new)
theorem Inv.pins_of {pins':List (Addr×Obj)} (I:Inv X pins σ H s) (h: ∀ p∈pins',s.heap.get? p.1=some p.2/\H p.1=none/\p.1≠X.env.locals/\p.1∉X.fs/\ ∀ v,p.2.data≠ .cell v):Inv X pins' σ H s:=
 ⟨I.ok,I.os,I.bare,I.base,I.loc,I.cell,I.free,I.freeC,fun p hp=>(qaK.mp hp).elim (fun z=>I.pin p (List.mem_append_left _ z)) (h p),I.hok,I.len⟩
theorem ze4 {N:List Str} (hN:N.Nodup) {i j:Nat} {x:Str} (a:N[i]? = some x) (b:N[j]? = some x):i=j:=by
 obtain ⟨h1,e1⟩:=qac.mp a
 obtain ⟨h2,e2⟩:=qac.mp b
 exact (List.getElem_inj hN).mp (e1.trans e2.symm)
theorem zfn {M:Model} {A:Around} {E:Value->Shared->Prop} {i:Nat} {x:Str} {v:V} {u:Value} {Q:Unit->Shared->Prop} (I:Inv X pins σ H s) (hN:X.N.Nodup) (hi:X.N[i]? = some x) (hx:Loc X.env.scope x) (r:zbg v u)
  (h: ∀ s',Inv X pins (σ.set i (some v)) H s'->(∃ a,Heap.SameBut a s.heap s'.heap/\(a=X.env.locals\/X.env.cells.lookup x=some a))->Q () s') (hf:X.fn x=true\/X.env.scope.names.lookup x=some .local:=by first | exact .inl rfl | exact .inr rfl | assumption):wpAny M A (storeName X.env x u) Q E s:=by
 obtain ⟨m,hn,hl⟩:=id I.loc
 have hcls:(X.env.scope.kind== .class || (X.env.scope.kind== .module && X.env.locals != X.env.globals))=false:=by rw [I.ok.kind];rfl
 have hiσ:i<σ.length:=by rw [I.len];exact (qac.mp hi).1
 have cne:=I.cne
 have tracked: ∀ {a:Addr} {h':Heap},(∃ o,s.heap.get? a=some o/\H a=none)->Heap.SameBut a s.heap h'->HOk X.prog X.w H h':=fun {a h'} ha hs b ob e=>by
  obtain ⟨_,_,hfree⟩:=ha
  refine (I.hok b ob e).stay (fun c w' hc q=>(hs.2 c ?_).trans q) (fun _ q=>q) fun _ _ q=>q
  rintro rfl
  rcases hc with rfl | hc
  ·rw [hfree] at e;cases e
  ·rw [hfree] at hc;cases hc
 rcases hx with hk | hk
 ·refine wpAny_storeName_local hk hn (fun h' hn' hs=> ?_) hcls
  obtain ⟨oL,_,_,hoL,_⟩:=id hn
  refine h _ ⟨I.ok,I.os,I.bare,⟨fun b o e n hb hx=> ?_,fun b o e n hb hx=> ?_,I.base.free,fun b o e hx=> ?_,I.base.tups,I.base.frzs,I.base.tbls⟩,⟨_,hn',fun j y v' e1 e2 e3=> ?_⟩,fun y c e=> ?_,I.free,I.freeC,fun p hp=> ?_,tracked ⟨oL,hoL,I.free⟩ hs,by simpa using I.len⟩ ⟨_,hs,.inl rfl⟩
  ·exact (hs.2 b (qaR (qaw (qaQ e) I.ok.above))).trans (I.base.keep b o e n hb hx)
  ·obtain ⟨sl,e1⟩:=I.base.slot b o e n hb hx
   exact ⟨sl,(hs.2 b (qaR (qaw (qaQ e) I.ok.above))).trans e1⟩
  ·obtain ⟨o',e1⟩:=I.base.there b o e hx
   exact ⟨o',(hs.2 b (qaR (qaw (qaQ e) I.ok.above))).trans e1⟩
  ·by_cases hj:j=i
   ·subst hj
    rw [hi] at e1;cases e1
    rw [qai hiσ] at e2
    cases e2
    exact ⟨u,r,.inl ⟨hk,by simp⟩⟩
   ·rw [qao (Ne.symm hj)] at e2
    obtain ⟨u',r',q⟩:=hl j y v' e1 e2 e3
    refine ⟨u',r',?_⟩
    rcases q with ⟨k,e⟩ | ⟨k,c,e,z⟩
    ·refine .inl ⟨k,?_⟩
     have:y≠x:=fun e=>hj (ze4 hN e1 (e▸hi))
     simp [this,e]
    ·exact .inr ⟨k,c,e,z.sameBut hs (cne y c e)⟩
  ·obtain ⟨w',z⟩:=I.cell y c e
   exact ⟨w',z.sameBut hs (cne y c e)⟩
  ·obtain ⟨e,n,ne,nf,d⟩:=I.pin p hp
   exact ⟨(hs.2 p.1 ne).trans e,n,ne,nf,d⟩
 ·have hfn:X.fn x=true:=by
   rcases hf with z | z
   ·exact z
   ·rw [z] at hk;cases hk
  obtain ⟨c,hc⟩:=I.ok.has x (.inl hk)
  obtain ⟨w',z⟩:=I.cell x c hc
  refine wpAny_storeName_cell I.ok.kind hk hc z (fun h' hc' hs=> ?_)
  obtain ⟨oc,hoc,hocd⟩:=id z
  refine h {s with heap:=h'} ⟨I.ok,I.os,I.bare,⟨fun b o e n hb hx=> ?_,fun b o e n hb hx=> ?_,I.base.free,fun b o e hx=> ?_,I.base.tups,I.base.frzs,I.base.tbls⟩,⟨m,hn.sameBut hs (Ne.symm (cne x c hc)),fun j y v' e1 e2 e3=> ?_⟩,fun y c' e=> ?_,I.free,I.freeC,fun p hp=> ?_,tracked ⟨oc,hoc,I.freeC x c hc⟩ hs,by simpa using I.len⟩ ⟨c,hs,.inr hc⟩
  ·exact (hs.2 b (qaR (qaw (qaQ e) (I.ok.cab x c hfn hc)))).trans (I.base.keep b o e n hb hx)
  ·obtain ⟨sl,e1⟩:=I.base.slot b o e n hb hx
   exact ⟨sl,(hs.2 b (qaR (qaw (qaQ e) (I.ok.cab x c hfn hc)))).trans e1⟩
  ·obtain ⟨o',e1⟩:=I.base.there b o e hx
   exact ⟨o',(hs.2 b (qaR (qaw (qaQ e) (I.ok.cab x c hfn hc)))).trans e1⟩
  ·by_cases hj:j=i
   ·subst hj
    rw [hi] at e1;cases e1
    rw [qai hiσ] at e2
    cases e2
    exact ⟨u,r,.inr ⟨.inl hk,c,hc,hc'⟩⟩
   ·rw [qao (Ne.symm hj)] at e2
    obtain ⟨u',r',q⟩:=hl j y v' e1 e2 e3
    refine ⟨u',r',?_⟩
    rcases q with q | ⟨k,c',e,z'⟩
    ·exact .inl q
    ·refine .inr ⟨k,c',e,z'.sameBut hs ?_⟩
     rintro rfl
     exact hj (ze4 hN e1 (I.ok.inj _ _ _ e hc▸hi))
  ·by_cases hcc:c'=c
   ·subst hcc;exact ⟨_,hc'⟩
   ·obtain ⟨w2,z2⟩:=I.cell y c' e
    exact ⟨w2,z2.sameBut hs hcc⟩
  ·obtain ⟨e,n,ne,nf,d⟩:=I.pin p hp
   refine ⟨(hs.2 p.1 ?_).trans e,n,ne,nf,d⟩
   intro q
   rw [q,hoc] at e
   have q':oc=p.2:=Option.some.inj e
   exact d w' (by rw [<- q'];exact hocd)
theorem zfi {M:Model} {A:Around} {E:Value->Shared->Prop} {i:Nat} {x:Str} {v:V} {u:Value} {Q:Unit->Shared->Prop} (I:Inv X pins σ H s) (hN:X.N.Nodup) (hi:X.N[i]? = some x) (hx:Loc X.env.scope x) (r:zbg v u)
  (h: ∀ s',Inv X pins (σ.set i (some v)) H s'->Q () s') (hf:X.fn x=true\/X.env.scope.names.lookup x=some .local:=by first | exact .inl rfl | exact .inr rfl | assumption):wpAny M A (storeName X.env x u) Q E s:=
 zfn I hN hi hx r (fun s' I' _=>h s' I') hf
theorem Inv.call' {s':Shared} {ch:List Addr} (I:Inv X pins σ H s) (ho:s'.os=s.os) (u:Un (frs X.stack) ch H H' s.heap s'.heap) (hok:HOk X.prog X.w H' s'.heap) (hg:AllBare s'.gens)
  (hch: ∀ b∈ch,(b∈X.ex\/X.s₀.heap.objs.size<=b)/\b≠X.env.locals/\(∀ x c,X.env.cells.lookup x=some c->c≠b)/\ ∀ p∈X.pn++pins,p.1≠b):Inv X pins σ H' s':=by
 obtain ⟨h',g',d',t',o'⟩:=s'
 have e:o'=s.os:=ho
 subst e
 exact I.call (g':=g') (t':=t') (d':=d') u hok hg hch
end
noncomputable abbrev XK:=Value->Option Addr->Hp->Prop
noncomputable abbrev St:=List (Option V)
noncomputable abbrev VK:=V->Hp->Prop
noncomputable abbrev TE:=St->Hp->VK->Prop
noncomputable abbrev TT:=St->Hp->(Bool->Hp->Prop)->Prop
noncomputable abbrev TA:=St->Hp->(List V->Hp->Prop)->Prop
structure zmk where
 nx:St->Hp->Prop
 rt:VK
 bk:St->Hp->Prop:=fun _ _=>False
 ct:St->Hp->Prop:=fun _ _=>False
noncomputable abbrev TS:=zmk->St->Hp->Prop
def EP (X:Cx) (pins:List (Addr×Obj)) (σ:St) (Q:VK) (u:Value) (s':Shared):Prop:= ∃ v H',Inv X pins σ H' s'/\zbg v u/\Q v H'
def TP (X:Cx) (pins:List (Addr×Obj)) (σ:St) (Q:Bool->Hp->Prop) (b:Bool) (s':Shared):Prop:= ∃ H',Inv X pins σ H' s'/\Q b H'
def AP (X:Cx) (pins:List (Addr×Obj)) (σ:St) (Q:List V->Hp->Prop) (us:List Value) (s':Shared):Prop:= ∃ vs H',Inv X pins σ H' s'/\zaI vs us/\Q vs H'
def SP (X:Cx) (pins:List (Addr×Obj)) (D:zmk) (f:Flow) (s':Shared):Prop:=
 match f with
 | .next=> ∃ σ' H',Inv X pins σ' H' s'/\D.nx σ' H'
 | .brk=> ∃ σ' H',Inv X pins σ' H' s'/\D.bk σ' H'
 | .cont=> ∃ σ' H',Inv X pins σ' H' s'/\D.ct σ' H'
 | .ret u=> ∃ v σ' H',Inv X pins σ' H' s'/\zbg v u/\D.rt v H'
def PE (X:Cx) (e:Expr) (t:TE):Prop:=
 ∀ (pins:List (Addr×Obj)) (s:Shared) (σ:St) (H:Hp) (Q:VK),Inv X pins σ H s->t σ H Q->wpAny (model X.prog X.w) X.A (eval e X.env) (EP X pins σ Q) X.xe s
def PT (X:Cx) (e:Expr) (t:TT):Prop:=
 ∀ (pins:List (Addr×Obj)) (s:Shared) (σ:St) (H:Hp) (Q:Bool->Hp->Prop),Inv X pins σ H s->t σ H Q->wpAny (model X.prog X.w) X.A (isTrue e X.env (eval e X.env)) (TP X pins σ Q) X.xe s
def PW (X:Cx) (e:Expr) (t:TT):Prop:=
 ∀ (whole:Sem Value) (pins:List (Addr×Obj)) (s:Shared) (σ:St) (H:Hp) (Q:Bool->Hp->Prop),Inv X pins σ H s->t σ H Q->wpAny (model X.prog X.w) X.A (isTrue e X.env whole) (TP X pins σ Q) X.xe s
theorem PW.pt {X:Cx} {e:Expr} {t:TT} (h:PW X e t):PT X e t:=h _
def PA (X:Cx) (es:List Expr) (t:TA):Prop:=
 ∀ (pos:Pos) (pins:List (Addr×Obj)) (s:Shared) (σ:St) (H:Hp) (Q:List V->Hp->Prop),Inv X pins σ H s->t σ H Q->wpAny (model X.prog X.w) X.A (spliced (backTo pos (starEach es X.env))) (AP X pins σ Q) X.xe s
def PS (X:Cx) (st:Stmt) (t:TS):Prop:=
 ∀ (pins:List (Addr×Obj)) (s:Shared) (σ:St) (H:Hp) (D:zmk),Inv X pins σ H s->t D σ H->wpAny (model X.prog X.w) X.A (exec st X.env) (SP X pins D) X.xe s
def PSs (X:Cx) (st:List Stmt) (t:TS):Prop:=
 ∀ (pins:List (Addr×Obj)) (s:Shared) (σ:St) (H:Hp) (D:zmk),Inv X pins σ H s->t D σ H->wpAny (model X.prog X.w) X.A (execs st X.env) (SP X pins D) X.xe s
theorem thn {α:Type} {t:Sem α} {Q Q':α->Shared->Prop} {M:Model} {A:Around} {E:Value->Shared->Prop} {s:Shared} (h:wpAny M A t Q E s) (hQ: ∀ a s,Q a s->Q' a s):wpAny M A t Q' E s:=qaZ h hQ fun _ _ x=>x
section
variable {X:Cx}
noncomputable def zrU (i:Nat):TE:=fun σ H Q=> ∃ v,σ[i]? = some (some v)/\Q v H
noncomputable def tC (v:V):TE:=fun _ H Q=>Q v H
theorem zmm {i:Nat} {x:Str} {pos:Pos} (hN:X.N[i]? = some x) (hv:Vis X.env.scope x) (hd:(x==("__debug__":Str))=false:=by decide) (hcd:(x==("__classdict__":Str))=false:=by decide):PE X (.Name x pos) (zrU i):=by
 intro pins s σ H Q I h
 obtain ⟨v,e,h⟩:=h
 obtain ⟨m,hn,hl⟩:=I.loc
 obtain ⟨u,r,l⟩:=hl i x v hN e hv
 have fin:EP X pins σ Q u s:=⟨v,H,I,r,h⟩
 rcases l with ⟨hk,hm⟩ | ⟨hk,c,hc,hcell⟩
 ·exact wpAny_Name (wpAny_loadName_local I.ok.kind hk hn hm fin) hd
 ·rcases hk with hk | hk
  ·exact wpAny_Name (wpAny_loadName_cell I.ok.kind hk hc hcell fin) hd
  ·exact wpAny_Name (wpAny_loadName_free I.ok.kind hk hc hcell fin hcd) hd
theorem zpX {i j pos}:PE X (.Constant (.int i) j pos) (tC (.int i)):=fun _ _ _ H _ I h=>wpAny_Constant_int ⟨.int i,H,I.tok _,⟨_,rfl⟩,h⟩
theorem zo9 {b j pos}:PE X (.Constant (.bool b) j pos) (tC (.bl b)):=fun _ _ _ H _ I h=>Constant_bool ⟨.bl b,H,I,rfl,h⟩
theorem zlV {x j pos}:PE X (.Constant (.str x) j pos) (tC (.str x)):=fun _ _ _ H _ I h=>Calls.Constant_str ⟨.str x,H,I.tok _,⟨_,rfl⟩,h⟩
def Gl (X:Cx) (x:Str):Prop:=X.env.kindOf x=some .globalImplicit
theorem zgy {E:Value->Shared->Prop} {pins:List (Addr×Obj)} {s:Shared} {σ:St} {H:Hp} {x:Str} {u:Value} {pos:Pos} {Q:Value->Shared->Prop} (I:Inv X pins σ H s) (hg:Gl X x) (hm:X.mg x=some u) (h:Q u s)
  (hd:(x==("__debug__":Str))=false:=by decide):wpAny (model X.prog X.w) X.A (eval (.Name x pos) X.env) Q E s:=
 Calls.Name_function_global I.ok.kind hg (Calls.loadGlobal_global (by rw [I.ok.glob];exact I.mod.glob.keeps I.bk) hm h) hd
theorem zhk {E:Value->Shared->Prop} {pins:List (Addr×Obj)} {s:Shared} {σ:St} {H:Hp} {x:Str} {u:Value} {pos:Pos} {Q:Value->Shared->Prop} (I:Inv X pins σ H s) (hg:Gl X x) (hm:X.mg x=none) (hv:bootBuiltins x=some u) (h:Q u s)
  (hn:x≠"__name__":=by decide) (hd:(x==("__debug__":Str))=false:=by decide):wpAny (model X.prog X.w) X.A (eval (.Name x pos) X.env) Q E s:=by
 obtain ⟨mb,h1,h2⟩:=I.mod.blt
 exact Calls.Name_function_global I.ok.kind hg (Calls.loadGlobal_builtin (by rw [I.ok.glob];exact I.mod.glob.keeps I.bk) hm (by rw [I.ok.blt];exact h1.keeps I.bk) ((h2 x hn).trans hv) h) hd
theorem znU {x:Str} {v:V} {u:Value} {pos:Pos} (hg:Gl X x) (hm:X.mg x=some u) (r:zbg v u) (hd:(x==("__debug__":Str))=false:=by decide):PE X (.Name x pos) (tC v):=
 fun _ _ _ H _ I h=>zgy I hg hm ⟨v,H,I,r,h⟩ hd
theorem zjL {x:Str} {v:V} {u:Value} {pos:Pos} (hg:Gl X x) (hm:X.mg x=none) (hv:bootBuiltins x=some u) (r:zbg v u) (hn:x≠"__name__":=by decide) (hd:(x==("__debug__":Str))=false:=by decide):PE X (.Name x pos) (tC v):=
 fun _ _ _ H _ I h=>zhk I hg hm hv ⟨v,H,I,r,h⟩ hn hd
noncomputable def t2I (ta tb:TE) (k:Int->Int->Hp->Prop):St->Hp->Prop:=fun σ H=>ta σ H fun x H1=>tb σ H1 fun y H2=> ∃ i j,x= .int i/\y= .int j/\k i j H2
variable {a b:Expr} {ta tb:TE} {pos:Pos}
noncomputable def zfd (p:Int->Int->Bool) (ta tb:TE):TE:=fun σ H Q=>t2I ta tb (fun i j H2=>Q (.bl (p i j)) H2) σ H
noncomputable def tB (t:TE):TT:=fun σ H Q=>t σ H fun x H1=> ∃ c,x= .bl c/\Q c H1
theorem zpK {e:Expr} {t:TE} (h:PE X e t) (he: ∀ whole,isTrue e X.env whole=(do let v<-whole;standAt e.pos;holding [v] (truthy v)):=by intro _;rfl):PT X e (tB t):=by
 intro pins s σ H Q I hw
 refine isTrue_plain (thn (h pins s σ H _ I hw) fun v s1 ⟨x,H1,I1,r1,q1⟩=> ?_) (he _)
 obtain ⟨d,rfl,q⟩:=q1
 cases r1
 exact wpAny_truthy_bool ⟨H1,I1,q⟩
variable {tA tB':TT} {rest:List Expr}
noncomputable def zoH (t u:TT):TT:=fun σ H Q=>t σ H fun c H1=>if c=true then u σ H1 Q else Q false H1
noncomputable def tOr (t u:TT):TT:=fun σ H Q=>t σ H fun c H1=>if c=true then Q true H1 else u σ H1 Q
noncomputable def zlJ (t:TT):TT:=fun σ H Q=>t σ H fun c H1=>Q (!c) H1
theorem pw_and1 (ha:PT X a tA):PW X (.BoolOp .And [a] pos) tA:=by
 intro wh pins s σ H Q I h
 refine isTrue_and (thn (ha pins s σ H Q I h) fun c s1 e=> ?_)
 cases c with
 | true=>exact isTrue_and_nil e
 | false=>exact e
theorem pw_or1 (ha:PT X a tA):PW X (.BoolOp .Or [a] pos) tA:=by
 intro wh pins s σ H Q I h
 refine isTrue_or (thn (ha pins s σ H Q I h) fun c s1 e=> ?_)
 cases c with
 | false=>exact isTrue_or_nil e
 | true=>exact e
theorem pw_and (ha:PT X a tA) (hb:PW X (.BoolOp .And (b::rest) pos) tB'):PW X (.BoolOp .And (a::b::rest) pos) (zoH tA tB'):=by
 intro wh pins s σ H Q I h
 refine isTrue_and (thn (ha pins s σ H _ I h) fun c s1 ⟨H1,I1,q1⟩=> ?_)
 cases c with
 | true=>exact hb wh pins s1 σ H1 Q I1 q1
 | false=>exact ⟨H1,I1,q1⟩
theorem pw_or (ha:PT X a tA) (hb:PW X (.BoolOp .Or (b::rest) pos) tB'):PW X (.BoolOp .Or (a::b::rest) pos) (tOr tA tB'):=by
 intro wh pins s σ H Q I h
 refine isTrue_or (thn (ha pins s σ H _ I h) fun c s1 ⟨H1,I1,q1⟩=> ?_)
 cases c with
 | true=>exact ⟨H1,I1,q1⟩
 | false=>exact hb wh pins s1 σ H1 Q I1 q1
theorem zom (ha:PT X a tA):PT X (.UnaryOp .Not a pos) (zlJ tA):=by
 intro pins s σ H Q I h
 exact isTrue_not (ha pins s σ H (fun c H1=>Q (!c) H1) I h)
noncomputable def zrw (ta tb:TE):TE:=fun σ H Q=>ta σ H fun x H1=> ∃ c,x= .bl c/\if c=true then tb σ H1 Q else Q (.bl false) H1
noncomputable def zrd (ta:TE):TE:=fun σ H Q=>ta σ H fun x H1=> ∃ c,x= .bl c/\Q (.bl (!c)) H1
theorem zo5 {op} {t:TE} (h:PE X a t):PE X (.BoolOp op [a] pos) t:=fun pins s σ H Q I hw=>BoolOp_one (h pins s σ H Q I hw)
theorem zpV (ha:PE X a ta) (hb:PE X (.BoolOp .And (b::rest) pos) tb):PE X (.BoolOp .And (a::b::rest) pos) (zrw ta tb):=by
 intro pins s σ H Q I h
 refine BoolOp_and (thn (ha pins s σ H _ I h) fun v s1 ⟨x,H1,I1,r1,q1⟩=> ?_)
 obtain ⟨c,rfl,q1⟩:=q1
 cases r1
 refine wpAny_truthy_bool ?_
 cases c with
 | true=>exact hb pins s1 σ H1 Q I1 q1
 | false=>exact ⟨.bl false,H1,I1,rfl,q1⟩
theorem zpe (ha:PE X a ta):PE X (.UnaryOp .Not a pos) (zrd ta):=by
 intro pins s σ H Q I h
 refine UnaryOp_ (thn (ha pins s σ H _ I h) fun v s1 ⟨x,H1,I1,r1,q1⟩=> ?_)
 obtain ⟨c,rfl,q1⟩:=q1
 cases r1
 exact not_of (wpAny_truthy_bool ⟨.bl (!c),H1,I1,rfl,q1⟩)
end
def SqL (K:W.Frag) (H:Hp) (a:Addr) (xs:List V):Prop:=
 Rd H a (.lst xs)\/
  ∃ (o:Obj) (its:Array Value) (n:Nat),K.lookup a=some o/\o.cls= .type "list"/\o.dict=none/\o.data= .seq its n/\its.size<=sizeLine/\zaI xs its.toList
def SqT (K:W.Frag) (H:Hp) (a:Addr) (xs:List V):Prop:=
 Rd H a (.tup xs)\/
  ∃ (o:Obj) (its:Array Value) (n:Nat),K.lookup a=some o/\o.cls= .type "tuple"/\o.data= .seq its n/\its.size<=sizeLine/\zaI xs its.toList
noncomputable def zsy:Value->Option V
 | .none=>some .non
 | .bool b=>some (.bl b)
 | .int i _=>some (.int i)
 | .str x _=>some (.str x)
 | .bytes b _=>some (.byt b)
 | .float b _=>some (.flt b)
 | .ref a=>some (.ref a)
 | .type n=>some (.ty n)
 | _=>none
theorem zbg.abs {x:V} {u:Value} (r:zbg x u):zsy u=some x:=by
 cases x with
 | non=>cases r;rfl
 | bl _=>cases r;rfl
 | int _=>obtain ⟨t,rfl⟩:=r;rfl
 | str _=>obtain ⟨t,rfl⟩:=r;rfl
 | byt _=>obtain ⟨t,rfl⟩:=r;rfl
 | flt _=>obtain ⟨t,rfl⟩:=r;rfl
 | ref _=>cases r;rfl
 | ty _=>cases r;rfl
theorem zbg.inj {x y:V} {u:Value} (r:zbg x u) (q:zbg y u):x=y:=Option.some.inj (r.abs.symm.trans q.abs)
theorem zaI.inj: ∀ {xs ys:List V} {us:List Value},zaI xs us->zaI ys us->xs=ys
 | _,_,_,.nil,.nil=>rfl
 | _,_,_,.cons r t,.cons r' t'=>by rw [r.inj r',zaI.inj t t']
section
variable {X:Cx} {pins:List (Addr×Obj)} {σ:St} {H:Hp} {s:Shared} {a:Addr} {xs ys:List V}
theorem SqL.of {K:W.Frag} (h:H a=some (.lst xs)):SqL K H a xs:= .inl (.inl h)
theorem SqT.of {K:W.Frag} (h:H a=some (.tup xs)):SqT K H a xs:= .inl (.inl h)
theorem Inv.list (I:Inv X pins σ H s) (h:SqL X.K H a xs): ∃ its:List Value,zaI xs its/\PlainL s.heap a its.toArray/\xs.length<=sizeLine:=by
 rcases h with h | ⟨o,its,n,hk,hc,hd,hs,hz,r⟩
 ·obtain ⟨z,its,n,r,e⟩:=h.ok I.hok
  exact ⟨its,r,⟨_,n,e,rfl,rfl,rfl⟩,z⟩
 ·refine ⟨its.toList,r,⟨o,n,I.kIn a o hk,hc,hd,by simpa using hs⟩,?_⟩
  have e:=r.length
  simp only [qas] at e
  omega
theorem Inv.tuple (I:Inv X pins σ H s) (h:SqT X.K H a xs): ∃ its:List Value,zaI xs its/\IsTup s.heap a its.toArray/\xs.length<=sizeLine:=by
 rcases h with h | ⟨o,its,n,hk,hc,hs,hz,r⟩
 ·obtain ⟨z,its,r,p⟩:=h.ok I.hok
  exact ⟨its,r,p,z⟩
 ·refine ⟨its.toList,r,⟨o,I.kIn a o hk,hc,n,by simpa using hs⟩,?_⟩
  have e:=r.length
  simp only [qas] at e
  omega
theorem Inv.list_inj (I:Inv X pins σ H s) (h:SqL X.K H a xs) (h':SqL X.K H a ys):xs=ys:=by
 obtain ⟨its,r,⟨o,n,e,_,_,d⟩,_⟩:=I.list h
 obtain ⟨its',r',⟨o',n',e',_,_,d'⟩,_⟩:=I.list h'
 rw [e] at e';cases e'
 rw [d] at d'
 injection d' with d1 _
 have:its=its':=by simpa using congrArg Array.toList d1
 subst this
 exact r.inj r'
theorem Inv.tuple_inj (I:Inv X pins σ H s) (h:SqT X.K H a xs) (h':SqT X.K H a ys):xs=ys:=by
 obtain ⟨its,r,⟨o,e,_,n,d⟩,_⟩:=I.tuple h
 obtain ⟨its',r',⟨o',e',_,n',d'⟩,_⟩:=I.tuple h'
 rw [e] at e';cases e'
 rw [d] at d'
 injection d' with d1 _
 have:its=its':=by simpa using congrArg Array.toList d1
 subst this
 exact r.inj r'
end
noncomputable abbrev Cx.wish (X:Cx) (E:Value->Shared->Prop):Cx:={X with xe:=E}
noncomputable abbrev Cx.nox (X:Cx):Cx:=X.wish fun _ _=>False
theorem Cx.Ok.wish {X:Cx} (ok:X.Ok) (E:Value->Shared->Prop):(X.wish E).Ok:=
 ⟨ok.mod,ok.kind,ok.glob,ok.blt,ok.above,ok.inj,ok.has,ok.cab,ok.hd,ok.hx,ok.frames,ok.stk,ok.exf,ok.bs,ok.bsz,ok.noex,ok.exfs,ok.funs,ok.frf⟩
theorem Cx.Ok.unwish {X:Cx} {E:Value->Shared->Prop} (ok:(X.wish E).Ok):X.Ok:=
 ⟨ok.mod,ok.kind,ok.glob,ok.blt,ok.above,ok.inj,ok.has,ok.cab,ok.hd,ok.hx,ok.frames,ok.stk,ok.exf,ok.bs,ok.bsz,ok.noex,ok.exfs,ok.funs,ok.frf⟩
section
variable {X:Cx} {pins:List (Addr×Obj)} {σ:St} {H:Hp} {s:Shared} {E:Value->Shared->Prop}
theorem Inv.wish (I:Inv X pins σ H s) (E:Value->Shared->Prop):Inv (X.wish E) pins σ H s:=⟨I.ok.wish E,I.os,I.bare,I.base,I.loc,I.cell,I.free,I.freeC,I.pin,I.hok,I.len⟩
theorem Inv.unwish (I:Inv (X.wish E) pins σ H s):Inv X pins σ H s:=⟨I.ok.unwish,I.os,I.bare,I.base,I.loc,I.cell,I.free,I.freeC,I.pin,I.hok,I.len⟩
theorem SP.unwish {D:zmk} {f:Flow} {s':Shared} (h:SP (X.wish E) pins D f s'):SP X pins D f s':=by
 cases f with
 | next=>obtain ⟨σ',H',I,q⟩:=h;exact ⟨σ',H',I.unwish,q⟩
 | brk=>obtain ⟨σ',H',I,q⟩:=h;exact ⟨σ',H',I.unwish,q⟩
 | cont=>obtain ⟨σ',H',I,q⟩:=h;exact ⟨σ',H',I.unwish,q⟩
 | ret u=>obtain ⟨v,σ',H',I,r,q⟩:=h;exact ⟨v,σ',H',I.unwish,r,q⟩
theorem PE.nox {e:Expr} {t:TE} (h:PE X.nox e t):PE X e t:=fun pins s σ H Q I hw=>
 qaZ (h pins s σ H Q (I.wish _) hw) (fun _ _ ⟨v,H',I',r,q⟩=>⟨v,H',I'.unwish,r,q⟩) fun _ _ z=>qa0 z
theorem PT.nox {e:Expr} {t:TT} (h:PT X.nox e t):PT X e t:=fun pins s σ H Q I hw=>
 qaZ (h pins s σ H Q (I.wish _) hw) (fun _ _ ⟨H',I',q⟩=>⟨H',I'.unwish,q⟩) fun _ _ z=>qa0 z
theorem PSs.nox {st:List Stmt} {t:TS} (h:PSs X.nox st t):PSs X st t:=fun pins s σ H D I hw=>
 qaZ (h pins s σ H D (I.wish _) hw) (fun _ _ q=>q.unwish) fun _ _ z=>qa0 z
end
section
variable {X:Cx} {st:Stmt} {rest:List Stmt} {t u:TS} {e:Expr} {te:TE} {pos:Pos}
noncomputable def zrr:TS:=fun D σ H=>D.nx σ H
noncomputable def zsx (t u:TS):TS:=fun D σ H=>t {D with nx:=u D} σ H
theorem zmG:PSs X [] zrr:=fun _ _ σ H _ I h=>wpAny_execs_nil ⟨σ,H,I,h⟩
theorem zkZ (h1:PS X st t) (h2:PSs X rest u):PSs X (st::rest) (zsx t u):=by
 intro pins s σ H D I h
 refine wpAny_execs_cons (thn (h1 pins s σ H {D with nx:=u D} I h) fun f s1 q=> ?_)
 cases f with
 | next=>
  obtain ⟨σ',H',I',q⟩:=q
  exact h2 pins s1 σ' H' D I' q
 | ret v=>exact q
 | brk=>exact q
 | cont=>exact q
theorem zn0 (h1:PS X st t):PSs X [st] t:=by
 intro pins s σ H D I h
 refine wpAny_execs_cons (thn (h1 pins s σ H D I h) fun f s1 q=> ?_)
 cases f with
 | next=>exact wpAny_execs_nil q
 | ret v=>exact q
 | brk=>exact q
 | cont=>exact q
theorem Inv.quiet {pins:List (Addr×Obj)} {σ:St} {H:Hp} {s:Shared} (I:Inv X pins σ H s):interactive X.env=false:=by simp [interactive,I.ok.kind]
noncomputable def zqx (te:TE):TS:=fun D σ H=>te σ H fun _ H1=>D.nx σ H1
theorem zmB (he:PE X e te) (hs:swapsWith e none pos.line X.env=pure false:=by rfl):PS X (.Expr e pos) (zqx te):=by
 intro pins s σ H D I h
 exact wpAny_Expr_any (thn (he pins s σ H _ I h) fun v s1 ⟨x,H1,I1,r1,q1⟩=>⟨σ,H1,I1,q1⟩) I.quiet hs
noncomputable def zsu (te:TE):TS:=fun D σ H=>te σ H D.rt
theorem zp8 (he:PE X e te):PS X (.Return (some e) pos) (zsu te):=by
 intro pins s σ H D I h
 exact wpAny_Return_some (thn (he pins s σ H _ I h) fun v s1 ⟨x,H1,I1,r1,q1⟩=>⟨x,σ,H1,I1,r1,q1⟩)
noncomputable def zsf (c:TT) (t u:TS):TS:=fun D σ H=>c σ H fun b H1=>if b=true then t D σ H1 else u D σ H1
theorem zqX {c:Expr} {a b:List Stmt} {tc:TT} (hc:PT X c tc) (ha:PSs X a t) (hb:PSs X b u):PS X (.If c a b pos) (zsf tc t u):=by
 intro pins s σ H D I h
 refine wpAny_If (thn (hc pins s σ H _ I h) fun d s1 ⟨H1,I1,q1⟩=> ?_)
 cases d with
 | true=>exact ha pins s1 σ H1 D I1 q1
 | false=>exact hb pins s1 σ H1 D I1 q1
end
noncomputable abbrev TG:=V->St->Hp->(St->Hp->Prop)->Prop
noncomputable abbrev TGs:=List V->St->Hp->(St->Hp->Prop)->Prop
def PG (X:Cx) (target:Expr) (t:TG):Prop:=
 ∀ (pins:List (Addr×Obj)) (s:Shared) (σ:St) (H:Hp) (v:V) (u:Value) (Q:St->Hp->Prop),Inv X pins σ H s->zbg v u->t v σ H Q->
  wpAny (model X.prog X.w) X.A (assign target X.env u) (fun _ s'=> ∃ σ' H',Inv X pins σ' H' s'/\Q σ' H') X.xe s
def PGs (X:Cx) (ts:List Expr) (t:TGs):Prop:=
 ∀ (pins:List (Addr×Obj)) (s:Shared) (σ:St) (H:Hp) (vs:List V) (us:List Value) (Q:St->Hp->Prop),Inv X pins σ H s->zaI vs us->t vs σ H Q->
  wpAny (model X.prog X.w) X.A (assignInOrder ((assignEach ts X.env).map (·.2)) us) (fun _ s'=> ∃ σ' H',Inv X pins σ' H' s'/\Q σ' H') X.xe s
noncomputable abbrev zpY:=V->V->V->Hp->(Hp->Prop)->Prop
def zoi (X:Cx) (t:zpY):Prop:=
 ∀ (pins:List (Addr×Obj)) (s:Shared) (σ:St) (H:Hp) (o i v:V) (ov iv u:Value) (Q:Hp->Prop),Inv X pins σ H s->zbg o ov->zbg i iv->zbg v u->t o i v H Q->
  wpAny (model X.prog X.w) X.A (setItem ov iv u) (fun _ s'=> ∃ H',Inv X pins σ H' s'/\Q H') X.xe s
section
variable {X:Cx} {pos:Pos}
noncomputable def znV (i:Nat):TG:=fun v σ H Q=>Q (σ.set i (some v)) H
theorem znN {i:Nat} {x:Str} (hN:X.N.Nodup) (hi:X.N[i]? = some x) (hx:Loc X.env.scope x) (hf:X.fn x=true\/X.env.scope.names.lookup x=some .local:=by first | exact .inl rfl | exact .inr rfl | assumption):PG X (.Name x pos) (znV i):=by
 intro pins s σ H v u Q I r h
 exact wpAny_assign_Name (zfi I hN hi hx r (fun s' I'=>⟨_,H,I',h⟩) hf)
noncomputable def zr6:TGs:=fun vs σ H Q=>vs=[]/\Q σ H
noncomputable def zqM (t:TG) (u:TGs):TGs:=fun vs σ H Q=> ∃ v r,vs=v::r/\t v σ H fun σ' H'=>u r σ' H' Q
theorem zmM:PGs X [] zr6:=by
 intro pins s σ H vs us Q I r h
 obtain ⟨e,h⟩:=h
 subst e
 cases r
 exact assignInOrder_nil ⟨σ,H,I,h⟩
theorem zlj {e:Expr} {es:List Expr} {t:TG} {u:TGs} (h1:PG X e t) (h2:PGs X es u)
  (hs:(assignEach (e::es) X.env).map (·.2)=assign e X.env::(assignEach es X.env).map (·.2):=by rfl):PGs X (e::es) (zqM t u):=by
 intro pins s σ H vs us Q I r h
 obtain ⟨v,vr,e1,h⟩:=h
 subst e1
 cases r with
 | cons r rr=>
  rw [hs]
  refine assignInOrder_cons (thn (h1 pins s σ H _ _ _ I r h) fun _ s1 ⟨σ1,H1,I1,q1⟩=> ?_)
  exact h2 pins s1 σ1 H1 _ _ Q I1 rr q1
noncomputable def zsz (K:W.Frag) (n:Nat) (t:TGs):TG:=fun v σ H Q=> ∃ a xs,v= .ref a/\SqT K H a xs/\xs.length=n/\t xs σ H Q
theorem zpJ {es:List Expr} {k:Nat} {t:TGs} {n:Nat} (hc:X.calm=true) (h:PGs X es t)
  (hn:(assignEach es X.env).length=n:=by rfl) (hst:(assignEach es X.env).findIdx? (·.1)=none:=by rfl):PG X (.Tuple es k pos) (zsz X.K n t):=by
 intro pins s σ H v u Q I r hw
 obtain ⟨a,xs,e1,hq,hl,hw⟩:=hw
 subst e1
 cases r
 obtain ⟨its,rv,ht,hz⟩:=I.tuple hq
 refine assign_Tuple_tuple (I.ok.hd hc) ht (by simp [hn, <-hl,rv.length]) hst fun h' hx=> ?_
 have I1:Inv X pins σ H {s with heap:=h'}:=I.kept (t':=s.toks) fun b o e=>hx b o (qaR (qaQ e)) e
 exact h pins _ σ H xs _ Q I1 (by simpa using rv) hw
noncomputable def zr2 (to ti:TE) (t:zpY):TG:=fun v σ H Q=>to σ H fun o H1=>ti σ H1 fun i H2=>t o i v H2 fun H3=>Q σ H3
theorem zpR {o i:Expr} {to ti:TE} {t:zpY} (ho:PE X o to) (hi:PE X i ti) (hs:zoi X t)
  (ha: ∀ v,assign (.Subscript o i pos) X.env v=(do
    let ov<-holding [v] (eval o X.env)
    let iv<-holding [v,ov] (eval i X.env)
    standAt pos
    holding [v,ov,iv] (setItem ov iv v)
    release [v,ov,iv] []):=by intro _;rfl):PG X (.Subscript o i pos) (zr2 to ti t):=by
 intro pins s σ H v u Q I r h
 rw [ha]
 refine qaW (qaO (thn (ho pins s σ H _ I h) fun ov s1 ⟨x,H1,I1,r1,q1⟩=> ?_))
 refine qaW (qaO (thn (hi pins s1 σ H1 _ I1 q1) fun iv s2 ⟨y,H2,I2,r2,q2⟩=> ?_))
 refine qaW (wpAny_standAt (qaW (qaO (thn (hs pins s2 σ H2 x y v ov iv u _ I2 r1 r2 r q2) fun _ s3 ⟨H3,I3,q3⟩=> ?_))))
 exact wpAny_release ⟨σ,H3,I3,q3⟩
noncomputable def zqW (te:TE) (g:TG):TS:=fun D σ H=>te σ H fun x H1=>g x σ H1 D.nx
theorem zpC {tg e:Expr} {te:TE} {g:TG} (he:PE X e te) (hg:PG X tg g) (hs:swapsWithSole [tg] e pos.line X.env=pure false:=by rfl) (hw:swappedStores [tg] e X.env=pure none:=by rfl)
  (h1:(assignEach [tg] X.env).map (·.2)=[assign tg X.env]:=by rfl):PS X (.Assign [tg] e pos) (zqW te g):=by
 intro pins s σ H D I h
 refine wpAny_Assign_stores (thn (he pins s σ H _ I h) fun v s1 ⟨x,H1,I1,r1,q1⟩=> ?_) hs hw
 rw [h1]
 exact thn (hg pins s1 σ H1 x v _ I1 r1 q1) fun _ s2 q=>q
theorem zoN {i:Nat} {x:Str} {e:Expr} {te:TE} {pos':Pos} (hN:X.N.Nodup) (hi:X.N[i]? = some x) (hx:Loc X.env.scope x) (he:PE X e te) (hs:swapsWith e (some (.Name x pos')) pos.line X.env=pure false:=by rfl) (hf:X.fn x=true\/X.env.scope.names.lookup x=some .local:=by first | exact .inl rfl | exact .inr rfl | assumption):
  PS X (.Assign [.Name x pos'] e pos) (zqW te (znV i)):=by
 intro pins s σ H D I h
 refine wpAny_Assign_Name (thn (he pins s σ H _ I h) fun v s1 ⟨y,H1,I1,r1,q1⟩=> ?_) hs
 exact zfi I1 hN hi hx r1 (fun s2 I2=>⟨_,H1,I2,q1⟩) hf
end
section
variable {X:Cx} {pos:Pos}
end
structure It where
 go:Nat->Hp->Prop
 yld:Nat->Hp->V->Hp->Prop
 stop:Nat->Hp->Prop
def zkg (X:Cx) (pins:List (Addr×Obj)) (H:Hp) (b:Addr):Prop:=
 H b=none/\b≠X.env.locals/\b∉X.fs/\(b∈X.ex\/X.s₀.heap.objs.size<=b)/\(∀ x c,X.env.cells.lookup x=some c->c≠b)/\ ∀ p∈X.pn++pins,p.1≠b
theorem Inv.fpOk {X:Cx} {pins:List (Addr×Obj)} {σ:St} {H H':Hp} {s:Shared} {b:Addr} (I:Inv X pins σ H s) (hb:s.heap.objs.size<=b) (hn:H' b=none):zkg X pins H' b:=by
 refine ⟨hn,Nat.ne_of_gt (qaw I.lt hb),I.nofs hb,.inr (qaS I.sz hb),fun x c e z=> ?_,fun p hp z=> ?_⟩
 ·obtain ⟨v,q⟩:=I.cell x c e
  exact absurd (qaw q.lt (by rw [z];exact hb)) (qaN _)
 ·exact absurd (qaw (qaQ (I.pin p hp).1) (by rw [z];exact hb)) (qaN _)
structure zpw (P:Program) (w:World) (K:W.Frag) (tg:Expr) (J:It) (fp:List Addr) (it:Addr) (tn:Nat->Heap->Prop):Prop where
 mem:it∈fp
 obj: ∀ i h,tn i h-> ∀ b∈fp, ∃ o,h.get? b=some o/\ ∀ v,o.data≠ .cell v
 keep: ∀ i h h',tn i h->(∀ b∈fp, ∀ o,h.get? b=some o->h'.get? b=some o)->tn i h'
 item: ∀ (X:Cx),X.prog=P->X.w=w->X.K=K-> ∀ (i:Nat) (pins:List (Addr×Obj)) (s:Shared) (σ:St) (H:Hp) (E:Value->Shared->Prop),Inv X pins σ H s->(∀ b∈fp,zkg X pins H b)->tn i s.heap->J.go i H->
  wpAny (model P w) X.A (pyNext (.ref it)) (fun r s1=> ∃ u,r=some u/\
    wpAny (model P w) X.A (letOwnedTupleGo tg (.ref it) u) (fun _ s2=> ∃ x H',Inv X pins σ H' s2/\zbg x u/\J.yld i H x H'/\tn (i+1) s2.heap/\ ∀ b∈fp,H' b=none) E s1) E s
 done: ∀ (X:Cx),X.prog=P->X.w=w->X.K=K-> ∀ (i:Nat) (pins:List (Addr×Obj)) (s:Shared) (σ:St) (H:Hp) (E:Value->Shared->Prop),Inv X pins σ H s->(∀ b∈fp,zkg X pins H b)->tn i s.heap->J.stop i H->
  wpAny (model P w) X.A (pyNext (.ref it)) (fun r s1=>r=none/\Inv X pins σ H s1) E s
 self: ∀ (A:Around) (i:Nat) (s:Shared) (Q:Value->Shared->Prop) (E:Value->Shared->Prop),tn i s.heap->Q (.ref it) s->wpAny (model P w) A (pyIter (.ref it)) Q E s
noncomputable abbrev TI:=St->Hp->(It->Hp->Prop)->Prop
def PIE (X:Cx) (pins:List (Addr×Obj)) (σ:St) (tg:Expr) (R:It->Hp->Prop) (itv:Value) (s2:Shared):Prop:=
 ∃ (it:Addr) (fp:List Addr) (tn:Nat->Heap->Prop) (J:It) (H':Hp),itv= .ref it/\Inv X pins σ H' s2/\zpw X.prog X.w X.K tg J fp it tn/\tn 0 s2.heap/\(∀ b∈fp,zkg X pins H' b)/\R J H'
def PI (X:Cx) (tg iter:Expr) (wi:TI):Prop:=
 ∀ (pins:List (Addr×Obj)) (s:Shared) (σ:St) (H:Hp) (R:It->Hp->Prop),Inv X pins σ H s->wi σ H R->
  wpAny (model X.prog X.w) X.A (eval iter X.env) (fun v s1=>wpAny (model X.prog X.w) X.A (pyIter v) (PIE X pins σ tg R) X.xe s1) X.xe s
theorem zmr {M:Model} {A:Around} {E:Value->Shared->Prop} {s:Shared} {tg:Expr} {it:Addr} {u:Value} {o:Obj} {n:String} {vs:Array Value} {Q:Unit->Shared->Prop} (ho:s.heap.get? it=some o) (hc:o.cls= .type n) (hd:o.data= .fields vs)
  (hn:["enumerate","zip","dict_itemiterator","dict_reverseitemiterator","odict_iterator","itertools.zip_longest","itertools.pairwise"].contains n=false) (hQ:Q () s):wpAny M A (letOwnedTupleGo tg (.ref it) u) Q E s:=by
 unfold letOwnedTupleGo
 cases tg<;>first
  | exact qaX hQ
  | (cases u<;>first
      | exact qaX hQ
      | (refine qaW (wpAny_load ho ?_)
         rw [hc,hd]
         show wpAny M A (if (["enumerate","zip","dict_itemiterator","dict_reverseitemiterator","odict_iterator","itertools.zip_longest","itertools.pairwise"].contains n && vs[0]? == some (rawInt _))=true then _ else _) Q E s
         rw [qa5 (by intro h;rw [hn,Bool.false_and] at h;cases h)]
         exact qaX hQ))
noncomputable def Itl (K:W.Frag) (a:Addr):It:=
 ⟨fun i H=> ∃ xs x,SqL K H a xs/\xs[i]? = some x,fun i H x H'=>H'=H/\ ∀ xs,SqL K H a xs->xs[i]? = some x,fun i H=> ∃ xs,SqL K H a xs/\xs.length<=i⟩
noncomputable def Itt (K:W.Frag) (a:Addr):It:=
 ⟨fun i H=> ∃ xs x,SqT K H a xs/\xs[i]? = some x,fun i H x H'=>H'=H/\ ∀ xs,SqT K H a xs->xs[i]? = some x,fun i H=> ∃ xs,SqT K H a xs/\xs.length<=i⟩
noncomputable def Itr (lo:Int) (n:Nat):It:=⟨fun i _=>i<n,fun i H x H'=>H'=H/\x= .int (lo+i),fun i _=>n<=i⟩
theorem zfy.keep {A:Around} {H H':Hp} (x:zfy A H) (k: ∀ b o u,H b=some (.frz o u)->H' b=some (.frz o u)):zfy A H':=by
 rcases x with x | ⟨a,o,cls,head,vs,x1,x2,x3⟩
 ·exact .inl x
 ·exact .inr ⟨a,o,cls,head,vs,x1,k _ _ _ x2,x3⟩
theorem zfy.at_ {A:Around} {P:Program} {w:World} {H:Hp} {h:Heap} (x:zfy A H) (ok:HOk P w H h):L3.zkX A h:=by
 rcases x with x | ⟨a,o,cls,head,vs,x1,x2,x3⟩
 ·exact .inl x
 ·exact .inr ⟨a,cls,head,x1,o,vs,(ok a _ x2).1,x3⟩
theorem Inv.handA {X:Cx} {pins:List (Addr×Obj)} {σ:St} {H:Hp} {s:Shared} (I:Inv X pins σ H s):zfy X.A H:=I.ok.hx.keep I.base.frzs
theorem Inv.hand {X:Cx} {pins:List (Addr×Obj)} {σ:St} {H:Hp} {s:Shared} (I:Inv X pins σ H s):L3.zkX X.A s.heap:=I.handA.at_ I.hok
theorem ziG {P:Program} {w:World} {K:W.Frag} {tg:Expr} (a it:Addr):zpw P w K tg (Itl K a) [it] it (fun i h=>h.IsListIter it a i) where
 mem:=by simp
 obj:=fun i h st b hb=>by
  have e:b=it:=by simpa using hb
  subst e
  obtain ⟨o,e,c,d⟩:=st
  exact ⟨o,e,fun v z=>by rw [d] at z;cases z⟩
 keep:=fun i h h' st k=>st.at fun o e=>k it (by simp) o e
 item:=by
  intro X hP hw hK i pins s σ H E I hf st hg
  subst hP hw hK
  obtain ⟨xs,x,hq,hx⟩:=hg
  obtain ⟨its,rv,p,hz⟩:=I.list hq
  obtain ⟨u,hu,ru⟩:=rv.get hx
  obtain ⟨f0,f1,f2,f3,f4,f5⟩:=hf it (by simp)
  refine wpAny_pyNext_list_item st p.isList (x:=u) (by simpa using hu) fun h' st' sb=> ?_
  have I1:Inv X pins σ H {s with heap:=h'}:=I.turned (t':=s.toks) (fun b o hb e=>(sb.2 b hb).trans e) f0 f1 f3 f4 f5
  obtain ⟨o,e,c,d⟩:=id st'
  exact ⟨u,rfl,zmr (s:={s with heap:=h'}) e c d (by decide) ⟨x,H,I1,ru,⟨rfl,fun ys hy=>by rw [I.list_inj hy hq];exact hx⟩,st',fun b hb=>(hf b hb).1⟩⟩
 done:=by
  intro X hP hw hK i pins s σ H E I hf st hg
  subst hP hw hK
  obtain ⟨xs,hq,hx⟩:=hg
  obtain ⟨its,rv,p,hz⟩:=I.list hq
  obtain ⟨f0,f1,f2,f3,f4,f5⟩:=hf it (by simp)
  have hl:=rv.length
  exact L3.zg6 I.hand st p.isList (by simp;omega) fun h' eb=>⟨rfl,I.turned (t':=s.toks) (fun b o hb e=>eb b o hb e) f0 f1 f3 f4 f5⟩
 self:=fun _ _ _ _ _ st h=>wpAny_pyIter_listiter st h
theorem zhS {P:Program} {w:World} {K:W.Frag} {tg:Expr} (a it:Addr):zpw P w K tg (Itt K a) [it] it (fun i h=>h.IsTupleIter it a i) where
 mem:=by simp
 obj:=fun i h st b hb=>by
  have e:b=it:=by simpa using hb
  subst e
  obtain ⟨o,e,c,d⟩:=st
  exact ⟨o,e,fun v z=>by rw [d] at z;cases z⟩
 keep:=fun i h h' st k=>st.at fun o e=>k it (by simp) o e
 item:=by
  intro X hP hw hK i pins s σ H E I hf st hg
  subst hP hw hK
  obtain ⟨xs,x,hq,hx⟩:=hg
  obtain ⟨its,rv,p,hz⟩:=I.tuple hq
  obtain ⟨u,hu,ru⟩:=rv.get hx
  obtain ⟨f0,f1,f2,f3,f4,f5⟩:=hf it (by simp)
  refine wpAny_pyNext_tuple_item st (show s.heap.IsTuple a its.toArray from p) (x:=u) (by simpa using hu) fun h' st' sb=> ?_
  have I1:Inv X pins σ H {s with heap:=h'}:=I.turned (t':=s.toks) (fun b o hb e=>(sb.2 b hb).trans e) f0 f1 f3 f4 f5
  obtain ⟨o,e,c,d⟩:=id st'
  exact ⟨u,rfl,zmr (s:={s with heap:=h'}) e c d (by decide) ⟨x,H,I1,ru,⟨rfl,fun ys hy=>by rw [I.tuple_inj hy hq];exact hx⟩,st',fun b hb=>(hf b hb).1⟩⟩
 done:=by
  intro X hP hw hK i pins s σ H E I hf st hg
  subst hP hw hK
  obtain ⟨xs,hq,hx⟩:=hg
  obtain ⟨its,rv,p,hz⟩:=I.tuple hq
  obtain ⟨f0,f1,f2,f3,f4,f5⟩:=hf it (by simp)
  have hl:=rv.length
  exact L3.ziN I.hand st (show s.heap.IsTuple a its.toArray from p) (by simp;omega) fun h' eb=>⟨rfl,I.turned (t':=s.toks) (fun b o hb e=>eb b o hb e) f0 f1 f3 f4 f5⟩
 self:=fun _ _ _ _ _ st h=>wpAny_pyIter_tupleiter st h
theorem zhZ {P:Program} {w:World} {K:W.Frag} {tg:Expr} (it:Addr) (lo:Int) (n:Nat):zpw P w K tg (Itr lo n) [it] it (fun i h=>IsRangeIter h it (lo+(i:Nat)*1) ((n:Int) - (i:Nat)) 1) where
 mem:=by simp
 obj:=fun i h st b hb=>by
  have e:b=it:=by simpa using hb
  subst e
  exact ⟨_,st,fun v z=>by
    have z':Data.fields _=Data.cell v:=z
    cases z'⟩
 keep:=fun i h h' st k=>k it (by simp) _ st
 item:=by
  intro X hP hw hK i pins s σ H E I hf st hg
  subst hP hw hK
  obtain ⟨f0,f1,f2,f3,f4,f5⟩:=hf it (by simp)
  refine wpAny_pyNext_range_item st (by have:i<n:=hg;omega) fun h' st' kk=> ?_
  have e1:lo+(i:Nat)*1+1=lo+((i+1:Nat):Int)*1:=by omega
  have e2:(n:Int) - (i:Nat) - 1=(n:Int) - ((i+1:Nat):Int):=by omega
  rw [e1,e2] at st'
  have I1:Inv X pins σ H {s with heap:=h',toks:=s.toks+1}:=I.turned (fun b o hb e=>(kk.2 b hb).trans e) f0 f1 f3 f4 f5
  refine ⟨_,rfl,zmr (s:={s with heap:=h',toks:=s.toks+1}) (n:="range_iterator") st' rfl rfl (by decide) ⟨.int (lo+i),H,I1,⟨s.toks,?_⟩,⟨rfl,rfl⟩,st',fun b hb=>(hf b hb).1⟩⟩
  rw [Int.mul_one]
 done:=by
  intro X hP hw hK i pins s σ H E I hf st hg
  subst hP hw hK
  obtain ⟨f0,f1,f2,f3,f4,f5⟩:=hf it (by simp)
  exact L3.zj1 I.hand st (by have:n<=i:=hg;omega) fun h' eb=>⟨rfl,I.turned (t':=s.toks) (fun b o hb e=>eb b o hb e) f0 f1 f3 f4 f5⟩
 self:=fun _ _ _ _ _ st h=>wpAny_pyIter_rangeiter st h
section
variable {X:Cx} {tg:Expr}
theorem zkH {pins:List (Addr×Obj)} {σ:St} {H:Hp} {s:Shared} {R:It->Hp->Prop} {E:Value->Shared->Prop} {lo hi:Int} {t u v:Tok} {tk:Nat} (I:Inv X pins σ H s) (h1: -(2^62)<=lo) (h2:lo<2^62) (h3: -(2^62)<=hi) (h4:hi<2^62)
  (q:R (Itr lo (hi - lo).toNat) H):wpAny (model X.prog X.w) X.A (pyIter (.ref s.heap.objs.size)) (PIE X pins σ tg R) E {s with heap:=s.heap.push {cls:= .type "range",data:= .fields #[.int lo t,.int hi u,.int 1 v]},toks:=tk}:=by
 refine wpAny_pyIter_range (IsRange.new ..) (small_one h1 h2 h3 h4) ?_
 have I1:Inv X pins σ H {s with heap:=s.heap.push {cls:= .type "range",data:= .fields #[.int lo t,.int hi u,.int 1 v]},toks:=tk}:=I.kept fun b o e=>qag _ e
 refine ⟨(s.heap.push {cls:= .type "range",data:= .fields #[.int lo t,.int hi u,.int 1 v]}).objs.size,[(s.heap.push {cls:= .type "range",data:= .fields #[.int lo t,.int hi u,.int 1 v]}).objs.size],_,_,H,rfl,
   I1.kept (t':=tk) fun b o e=>qag _ e,zhZ _ lo (hi - lo).toNat,?_,fun b hb=> ?_,q⟩
 ·have e1:lo+((0:Nat):Int)*1=lo:=by simp
  have e2:(((hi - lo).toNat:Nat):Int) - ((0:Nat):Int)=Builtin.Range.rangeSize lo hi 1:=by rw [rangeSize_one];split<;>omega
  show IsRangeIter _ _ (lo+((0:Nat):Int)*1) ((((hi - lo).toNat:Nat):Int) - ((0:Nat):Int)) 1
  rw [e1,e2]
  exact qar _ rfl
 ·have e:b=(s.heap.push {cls:= .type "range",data:= .fields #[.int lo t,.int hi u,.int 1 v]}).objs.size:=by simpa using hb
  subst e
  exact I1.fpOk (qaV _) (I1.hok.fresh (qaV _))
noncomputable def zqQ (ta:TA):TI:=fun σ H R=>ta σ H fun vs H1=> ∃ j:Int,vs=[.int j]/\ -(2^62)<=j/\j<2^62/\R (Itr 0 j.toNat) H1
theorem ziX {a:Expr} {ta:TA} {p pos:Pos} (hg:Gl X "range") (hm:X.mg "range"=none) (ha:PA X [a] ta) (hs:starEach [a] X.env=[(false,eval a X.env)]:=by rfl):PI X tg (.Call (.Name "range" p) [a] [] pos) (zqQ ta):=by
 intro pins s σ H R I h
 refine Call_ (zhk I hg hm boot_range (PyProof.Rows.callWith_type1 (thn (ha pos pins s σ H _ I h) fun us s1 ⟨vs,H1,I1,r1,q1⟩=> ?_) hs rfl))
 obtain ⟨j,e,q1,q2,q⟩:=q1
 subst e
 cases r1 with
 | cons r rr=>
  cases rr
  obtain ⟨t,rfl⟩:=r
  exact call_range_1 (zkH I1 (by omega) (by omega) q1 q2 (by simpa using q))
noncomputable def zsB (wi:TI) (g:TG) (tb:TS):TS:=fun D σ H=>wi σ H fun J H1=> ∃ W:Nat->Nat->St->Hp->Prop,(∃ m,W 0 m σ H1)/\ ∀ i m σ H,W i m σ H->
 (J.stop i H/\D.nx σ H)\/(J.go i H/\ ∃ N:St->Hp->Prop,(∀ σ' H',N σ' H'-> ∃ m',m'<m/\W (i+1) m' σ' H')/\ ∀ x H',J.yld i H x H'->g x σ H' fun σ2 H2=>tb {D with nx:=N,ct:=N,bk:=D.nx} σ2 H2)
noncomputable def zfY (fp:List Addr) (h:Heap):List (Addr×Obj):=fp.filterMap fun b=>(h.get? b).map fun o=>(b,o)
theorem zcz {fp:List Addr} {h:Heap} {b:Addr} {o:Obj} (hb:b∈fp) (e:h.get? b=some o):(b,o)∈zfY fp h:=List.mem_filterMap.mpr ⟨b,hb,by rw [e];rfl⟩
theorem zjX {fp:List Addr} {h:Heap} {p:Addr×Obj} (hp:p∈zfY fp h):p.1∈fp/\h.get? p.1=some p.2:=by
 obtain ⟨b,hb,e⟩:=List.mem_filterMap.mp hp
 cases q:h.get? b with
 | none=>rw [q] at e;cases e
 | some o=>
  rw [q] at e
  have e':(b,o)=p:=Option.some.inj e
  subst e'
  exact ⟨hb,q⟩
theorem Inv.pinned {pins:List (Addr×Obj)} {σ:St} {H:Hp} {s:Shared} {fp:List Addr} (I:Inv X pins σ H s) (hf: ∀ b∈fp,zkg X pins H b) (ho: ∀ b∈fp, ∃ o,s.heap.get? b=some o/\ ∀ v,o.data≠ .cell v):Inv X (pins++zfY fp s.heap) σ H s:=
 I.pins_of fun p hp=>(qaK.mp hp).elim (fun z=>I.pin p (qak _ z)) fun z=>by
  obtain ⟨hb,e⟩:=zjX z
  obtain ⟨f0,f1,f2,_⟩:=hf p.1 hb
  obtain ⟨o,e',d⟩:=ho p.1 hb
  rw [e] at e';cases e'
  exact ⟨e,f0,f1,f2,d⟩
theorem Inv.unpinned {pins pl:List (Addr×Obj)} {σ:St} {H:Hp} {s:Shared} (I:Inv X (pins++pl) σ H s):Inv X pins σ H s:=I.pins_of fun p hp=>I.pin p (qak _ (List.mem_append_left _ hp))
theorem zos {iter:Expr} {body:List Stmt} {wi:TI} {g:TG} {tb:TS} {pos:Pos} (hp:PassesOwn (model X.prog X.w) X.A X.env X.xe) (hc:X.calm=true) (hi:PI X tg iter wi) (hg:PG X tg g) (hb:PSs X body tb)
  (hs: ∀ x,foldedSetIterable iter X.env x=pure x:=by intro _;rfl):PS X (.For tg iter body [] pos) (zsB wi g tb):=by
 intro pins s σ H D I h
 refine wpAny_For (thn (hi pins s σ H _ I h) fun v s1 h1=>thn h1 fun itv s2 h2=> ?_) hs
 obtain ⟨it,fp,tn,J,H2,e,I2,T,st2,f2,W,⟨m0,w0⟩,turn⟩:=h2
 subst e
 have stat: ∀ {H':Hp},(∀ b∈fp,H' b=none)-> ∀ b∈fp,zkg X pins H' b:=fun hn b hb=>⟨hn b hb,(f2 b hb).2⟩
 refine codeAny_forLoop_any (fun n s'=> ∃ i σ' H',Inv X pins σ' H' s'/\tn i s'.heap/\(∀ b∈fp,H' b=none)/\W i n σ' H') ?_ m0 ⟨0,σ,H2,I2,st2,fun b hb=>(f2 b hb).1,w0⟩
 rintro n s3 ⟨i,σ3,H3,I3,st3,fr3,w3⟩
 rcases turn i n σ3 H3 w3 with ⟨stop,qn⟩ | ⟨go,N,hN,step⟩
 ·refine wpAny_passesOwn hp (thn (T.done X rfl rfl rfl i pins s3 σ3 H3 X.xe I3 (stat fr3) st3 stop) fun r s4 ⟨hr,I4⟩=> ?_)
  subst hr
  exact wpAny_execs_nil ⟨σ3,H3,I4,qn⟩
 ·refine wpAny_passesOwn hp (thn (T.item X rfl rfl rfl i pins s3 σ3 H3 X.xe I3 (stat fr3) st3 go) fun r s4 ⟨u,hr,h4⟩=> ?_)
  subst hr
  refine wpAny_passesOwn hp (thn h4 fun _ s5 ⟨x,H5,I5,r5,y5,st5,fr5⟩=> ?_)
  have I5':=I5.pinned (stat fr5) (T.obj _ _ st5)
  refine wpAny_passesOwn hp (thn (hg _ s5 σ3 H5 x u _ I5' r5 (step x H5 y5)) fun _ s6 ⟨σ6,H6,I6,q6⟩=> ?_)
  refine wpAny_passesOwn hp (thn (hb _ s6 σ6 H6 _ I6 q6) fun f s7 q7=> ?_)
  have again: ∀ {σ7:St} {H7:Hp},Inv X (pins++zfY fp s5.heap) σ7 H7 s7->N σ7 H7-> ∃ m,m<n/\ ∃ i σ' H',Inv X pins σ' H' s7/\tn i s7.heap/\(∀ b∈fp,H' b=none)/\W i m σ' H':=fun {σ7 H7} I7 n7=>by
   obtain ⟨m',hm,w7⟩:=hN σ7 H7 n7
   refine ⟨m',hm,i+1,σ7,H7,I7.unpinned,T.keep _ _ _ st5 fun b hb o e=>(I7.pin (b,o) (qak _ (qak _ (zcz hb e)))).1,fun b hb=> ?_,w7⟩
   obtain ⟨o,e,d⟩:=T.obj _ _ st5 b hb
   exact (I7.pin (b,o) (qak _ (qak _ (zcz hb e)))).2.1
  cases f with
  | next=>obtain ⟨σ7,H7,I7,n7⟩:=q7;exact again I7 n7
  | cont=>obtain ⟨σ7,H7,I7,n7⟩:=q7;exact again I7 n7
  | brk=>obtain ⟨σ7,H7,I7,q7⟩:=q7;exact ⟨σ7,H7,I7.unpinned,q7⟩
  | ret v=>obtain ⟨x7,σ7,H7,I7,r7,q7⟩:=q7;exact ⟨x7,σ7,H7,I7.unpinned,r7,q7⟩
end
noncomputable abbrev R2:=V->V->Hp->VK->Prop
def OpR (X:Cx) (f:Value->Value->Sem Value) (r:R2):Prop:=
 ∀ (pins:List (Addr×Obj)) (s:Shared) (σ:St) (H:Hp) (x y:V) (v u:Value) (Q:VK),Inv X pins σ H s->zbg x v->zbg y u->r x y H Q->
  wpAny (model X.prog X.w) X.A (f v u) (EP X pins σ Q) X.xe s
def zax (X:Cx) (f:Value) (r:List V->Hp->VK->Prop):Prop:=
 ∀ (pins:List (Addr×Obj)) (s:Shared) (σ:St) (H:Hp) (xs:List V) (us:List Value) (Q:VK),Inv X pins σ H s->zaI xs us->r xs H Q->
  wpAny (model X.prog X.w) X.A (call f us) (EP X pins σ Q) X.xe s
noncomputable def tOp (r:R2) (ta tb:TE):TE:=fun σ H Q=>ta σ H fun x H1=>tb σ H1 fun y H2=>r x y H2 Q
noncomputable def rI (C:Int->Int->Prop) (g:Int->Int->V):R2:=fun x y H Q=> ∃ i j,x= .int i/\y= .int j/\C i j/\Q (g i j) H
noncomputable def rI0 (g:Int->Int->V):R2:=fun x y H Q=> ∃ i j,x= .int i/\y= .int j/\Q (g i j) H
section
variable {X:Cx} {a b c:Expr} {ta tb tc:TE} {pos:Pos}
theorem zri (ha:PE X a ta) (hb:PE X b tb) {pins:List (Addr×Obj)} {s:Shared} {σ:St} {H:Hp} {R:V->V->Hp->Prop} (I:Inv X pins σ H s)
  (h:ta σ H fun x H1=>tb σ H1 fun y H2=>R x y H2) {Q:Value->Shared->Prop} {f:Value->Value->Sem Value}
  (hf: ∀ v u s2 x y H2,Inv X pins σ H2 s2->zbg x v->zbg y u->R x y H2->wpAny (model X.prog X.w) X.A (f v u) Q X.xe s2):
  wpAny (model X.prog X.w) X.A (eval a X.env) (fun v s₁=>wpAny (model X.prog X.w) X.A (eval b X.env) (fun u s₂=>wpAny (model X.prog X.w) X.A (f v u) Q X.xe s₂) X.xe s₁) X.xe s:=by
 refine thn (ha pins s σ H _ I h) fun v s1 ⟨x,H1,I1,r1,q1⟩=> ?_
 refine thn (hb pins s1 σ H1 _ I1 q1) fun u s2 ⟨y,H2,I2,r2,q2⟩=> ?_
 exact hf v u s2 x y H2 I2 r1 r2 q2
theorem zqR {op:Operator} {r:R2} (ho:OpR X (binaryOp op) r) (ha:PE X a ta) (hb:PE X b tb):PE X (.BinOp a op b pos) (tOp r ta tb):=by
 intro pins s σ H Q I h
 exact wpAny_BinOp (zri ha hb I h fun v u s2 x y H2 I2 rx ry q=>ho pins s2 σ H2 x y v u Q I2 rx ry q)
theorem opI {f:Value->Value->Sem Value} {C:Int->Int->Prop} {g:Int->Int->Int}
  (rule: ∀ (i j:Int) (t u:Tok) (s:Shared) (Q:Value->Shared->Prop) (E:Value->Shared->Prop),C i j->Q (.int (g i j) s.toks) {s with toks:=s.toks+1}->wpAny (model X.prog X.w) X.A (f (.int i t) (.int j u)) Q E s):
  OpR X f (rI C fun i j=> .int (g i j)):=by
 intro pins s σ H x y v u Q I rx ry h
 obtain ⟨i,j,rfl,rfl,hc,q⟩:=h
 obtain ⟨t,rfl⟩:=rx
 obtain ⟨t',rfl⟩:=ry
 exact rule i j t t' s _ _ hc ⟨.int (g i j),H,I.tok _,⟨_,rfl⟩,q⟩
theorem zqs {f:Value->Value->Sem Value} {g:Int->Int->Int}
  (rule: ∀ (i j:Int) (t u:Tok) (s:Shared) (Q:Value->Shared->Prop) (E:Value->Shared->Prop),Q (.int (g i j) s.toks) {s with toks:=s.toks+1}->wpAny (model X.prog X.w) X.A (f (.int i t) (.int j u)) Q E s):
  OpR X f (rI0 fun i j=> .int (g i j)):=by
 intro pins s σ H x y v u Q I rx ry h
 obtain ⟨i,j,rfl,rfl,q⟩:=h
 obtain ⟨t,rfl⟩:=rx
 obtain ⟨t',rfl⟩:=ry
 exact rule i j t t' s _ _ ⟨.int (g i j),H,I.tok _,⟨_,rfl⟩,q⟩
theorem zse {f:Value->Value->Sem Value} {g:Int->Int->Bool}
  (rule: ∀ (i j:Int) (t u:Tok) (s:Shared) (Q:Value->Shared->Prop) (E:Value->Shared->Prop),Q (.bool (g i j)) s->wpAny (model X.prog X.w) X.A (f (.int i t) (.int j u)) Q E s):
  OpR X f (rI0 fun i j=> .bl (g i j)):=by
 intro pins s σ H x y v u Q I rx ry h
 obtain ⟨i,j,rfl,rfl,q⟩:=h
 obtain ⟨t,rfl⟩:=rx
 obtain ⟨t',rfl⟩:=ry
 exact rule i j t t' s _ _ ⟨.bl (g i j),H,I,rfl,q⟩
def zqq (i j:Int):Prop:=0<=j/\j<=1000000/\i.natAbs<2^64
def zqw (i j:Int):Prop:=(-(2^64)<i/\i<2^64)\/(-(2^64)<j/\j<2^64)
theorem zqw.ok {i j:Int} (h:zqw i j):IntMulOk i j:=by
 rcases h with ⟨h1,h2⟩ | ⟨h1,h2⟩
 ·exact .of_left (intBits_le_64 h1 h2)
 ·exact .of_right (intBits_le_64 h1 h2)
theorem two_pow_nn (k:Nat):(0:Int)<=2^k:=by
 rw [two_pow_cast]
 exact Int.natCast_nonneg _
theorem zo1:OpR X (binaryOp .Add) (rI0 fun i j=> .int (i+j)):=zqs fun _ _ _ _ _ _ _ q=>add_int q
theorem zpk:OpR X (binaryOp .Sub) (rI0 fun i j=> .int (i - j)):=zqs fun _ _ _ _ _ _ _ q=>sub_int q
theorem zoJ:OpR X (binaryOp .Mult) (rI zqw fun i j=> .int (i*j)):=opI fun _ _ _ _ _ _ _ hc q=>mul_int q hc.ok
theorem zoO:OpR X (binaryOp .Mod) (rI (fun _ j=>0<j) fun i j=> .int (i % j)):=opI fun i j _ _ _ _ _ hc q=>by
 have h1:(0:Int)<j:=hc
 exact mod_int' (by omega) (by rw [Int.fmod_eq_emod_of_nonneg i (by omega)];exact q)
theorem zpG:OpR X (binaryOp .Pow) (rI zqq fun i j=> .int (i^j.toNat)):=opI fun _ _ _ _ _ _ _ hc q=>pow_int_small hc.1 hc.2.1 hc.2.2 q
theorem zok:OpR X (binaryOp .LShift) (rI zqq fun i j=> .int (i*2^j.toNat)):=opI fun _ _ _ _ _ _ _ hc q=>lshift_int_small hc.1 hc.2.1 hc.2.2 q
theorem zpv:OpR X (binaryOp .RShift) (rI (fun _ j=>0<=j) fun i j=> .int (i / 2^j.toNat)):=opI fun i j _ _ _ _ _ hc q=>
 rshift_int hc (by rw [Int.fdiv_eq_ediv_of_nonneg i (two_pow_nn _)];exact q)
theorem zpt:OpR X (binaryOp .BitAnd) (rI0 fun i j=> .int (Builtin.bitAnd i j)):=zqs fun _ _ _ _ _ _ _ q=>and_int q
theorem zrD:OpR X (binaryOp .BitOr) (rI0 fun i j=> .int (Builtin.bitOr i j)):=zqs fun _ _ _ _ _ _ _ q=>or_int q
end
section
variable {X:Cx} {a b c:Expr} {ta tb tc:TE} {pos:Pos}
theorem zqE:OpR X (compareOp .Lt) (rI0 fun i j=> .bl (decide (i<j))):=zse fun _ _ _ _ _ _ _ q=>lt_int q
theorem OpR.or {f:Value->Value->Sem Value} {r r':R2} (h:OpR X f r) (h':OpR X f r'):OpR X f (fun x y H Q=>r x y H Q\/r' x y H Q):=by
 intro pins s σ H x y v u Q I rx ry q
 rcases q with q | q
 ·exact h pins s σ H x y v u Q I rx ry q
 ·exact h' pins s σ H x y v u Q I rx ry q
theorem zm5 {op:CmpOp} {r:R2} (ho:OpR X (compareOp op) r) (ha:PE X a ta) (hb:PE X b tb) (hm:behindInMarks op b=false):PE X (.Compare a [op] [b] pos) (tOp r ta tb):=by
 intro pins s σ H Q I h
 exact wpAny_Compare1 (zri ha hb I h fun v u s2 x y H2 I2 rx ry q=>ho pins s2 σ H2 x y v u Q I2 rx ry q) hm
noncomputable def zqU (t:TE):TT:=fun σ H Q=>t σ H fun x H'=> ∃ k,x= .bl k/\Q k H'
theorem znO {op:CmpOp} {r:R2} (ho:OpR X (compareOp op) r) (ha:PE X a ta) (hb:PE X b tb) (hm:behindInMarks op b=false):PT X (.Compare a [op] [b] pos) (zqU (tOp r ta tb)):=by
 intro pins s σ H Q I h
 refine wpAny_isTrue_Compare1 (thn (ha pins s σ H _ I h) fun v s1 ⟨x,H1,I1,r1,q1⟩=>thn (hb pins s1 σ H1 _ I1 q1) fun u s2 ⟨y,H2,I2,r2,q2⟩=>
   thn (ho pins s2 σ H2 x y v u _ I2 r1 r2 q2) fun c s3 ⟨z,H3,I3,r3,k,e,q3⟩=> ?_) hm
 subst e
 cases r3
 exact wpAny_truthy_bool ⟨H3,I3,q3⟩
theorem zhD:(sizeLine:Nat)<2^63:=by rw [sizeLine_eq];decide
theorem zif:OpR X (binaryOp .Add) (fun x y H Q=> ∃ i j,x= .str i/\y= .str j/\i.length+j.length<=sizeLine/\Q (.str (i++j)) H):=by
 intro pins s σ H x y v u Q I rx ry h
 obtain ⟨i,j,rfl,rfl,hz,q⟩:=h
 obtain ⟨t,rfl⟩:=rx
 obtain ⟨t',rfl⟩:=ry
 exact add_str (fun t' tk=>⟨.str (i++j),H,I.tok _,⟨_,rfl⟩,q⟩) hz
theorem zcS {x:V} {us:List Value} (r:zaI [x] us): ∃ u,us=[u]/\zbg x u:=by
 cases r with
 | cons r1 r2=>cases r2;exact ⟨_,rfl,r1⟩
theorem zps {x y:V} {us:List Value} (r:zaI [x,y] us): ∃ u w',us=[u,w']/\zbg x u/\zbg y w':=by
 cases r with
 | cons r1 r2=>
  cases r2 with
  | cons r3 r4=>cases r4;exact ⟨_,_,rfl,r1,r3⟩
theorem zi0 (hc:X.calm=true):zax X (.builtin "max") (fun xs H Q=> ∃ i j,xs=[.int i,.int j]/\Q (.int (if j>i then j else i)) H):=by
 intro pins s σ H xs us Q I r h
 obtain ⟨i,j,rfl,q⟩:=h
 obtain ⟨u,w',rfl,⟨t,rfl⟩,⟨t',rfl⟩⟩:=zps r
 refine max_two_ints (I.ok.hd hc) fun h' tk k=>⟨_,H,I.kept k,?_,q⟩
 by_cases hj:j>i
 ·rw [qa4 hj,qa4 hj];exact ⟨_,rfl⟩
 ·rw [qa5 hj,qa5 hj];exact ⟨_,rfl⟩
theorem ziL (hc:X.calm=true):zax X (.builtin "min") (fun xs H Q=> ∃ i j,xs=[.int i,.int j]/\Q (.int (if j<i then j else i)) H):=by
 intro pins s σ H xs us Q I r h
 obtain ⟨i,j,rfl,q⟩:=h
 obtain ⟨u,w',rfl,⟨t,rfl⟩,⟨t',rfl⟩⟩:=zps r
 refine min_two_ints (I.ok.hd hc) fun h' tk k=>⟨_,H,I.kept k,?_,q⟩
 by_cases hj:j<i
 ·rw [qa4 hj,qa4 hj];exact ⟨_,rfl⟩
 ·rw [qa5 hj,qa5 hj];exact ⟨_,rfl⟩
theorem ziI:zax X (.type "int") (fun xs H Q=>(∃ i,xs=[.int i]/\Q (.int i) H)\/ ∃ k,xs=[.bl k]/\Q (.int (if k then 1 else 0)) H):=by
 intro pins s σ H xs us Q I r h
 rcases h with ⟨i,rfl,q⟩ | ⟨k,rfl,q⟩
 ·obtain ⟨u,rfl,t,rfl⟩:=zcS r
  exact call_int_int ⟨.int i,H,I,⟨_,rfl⟩,q⟩
 ·obtain ⟨u,rfl,r1⟩:=zcS r
  cases r1
  exact call_int_bool ⟨.int (if k then 1 else 0),H,I.tok _,⟨_,rfl⟩,q⟩
end
structure zqT (h:Heap) (x dx C:Addr) (mA:Str->Option Value):Prop where
 obj:h.get? x=some (W.instObj C dx)
 ns:h.Ns1 dx mA
 ne:dx≠x
theorem zjI {h:Heap} {dx:Addr} {mA:Str->Option Value} (n:h.Ns1 dx mA): ∃ od,h.get? dx=some od/\ ∀ name,W.lookIn name od=some (mA name):=by
 obtain ⟨o,es,ep,ho,hd,hk,_,hm⟩:=n
 refine ⟨o,ho,fun name=> ?_⟩
 have e:=hm name
 unfold nsFind findBy at e
 rw [<- Array.find?_toList] at e
 unfold W.lookIn
 rw [hd]
 dsimp only
 split
 ·rename_i y q
  rw [q] at e
  exact congrArg some e
 ·rename_i q
  rw [q] at e
  have a:es.toList.any (·.refKey)=false:=by
   rw [List.any_eq_false]
   intro y hy
   obtain ⟨z,t,hkey⟩:=hk y (Array.mem_toList_iff.mp hy)
   simp [DictEntry.refKey,hkey]
  have a': ¬es.toList.any (·.refKey)=true:=by rw [a];exact Bool.false_ne_true
  rw [qa5 a']
  exact congrArg some e
theorem zqT.look {h:Heap} {x dx C:Addr} {mA:Str->Option Value} (I:zqT h x dx C mA): ∃ od,W.InstAt h x (W.instObj C dx) C (some od)/\ ∀ name,W.lookIn name od=some (mA name):=
 let ⟨od,ho,hl⟩:=zjI I.ns
 ⟨od,⟨I.obj,rfl,rfl,ho⟩,hl⟩
section
variable {prog:Program} {w:World} {A:Around} {E:Value->Shared->Prop} {s:Shared} {K:W.Frag} {x dx C f:Addr} {mA:Str->Option Value} {name:Str} {v:Value}
end
section
variable {P:Program} {w:World} {H H':Hp} {h h':Heap} {a C dx:Addr} {fs fs':List (Str×V)}
theorem zmY (hok:HOk P w H h) (e:H a=some (.ins C dx fs)): ∃ mA,zqT h a dx C mA/\(∀ f,zrl (fs.lookup f) (mA f))/\PySem.Within mA (fs.map (·.1))/\fs.length<=1000/\H dx=some (.own a):=by
 obtain ⟨d,z,ne,ob,mA,n,r,q⟩:=(show zbp P w H h a (.ins C dx fs) from hok a _ e)
 exact ⟨mA,⟨ob,n,ne⟩,r,q,z,d⟩
end
structure Cls (K:W.Frag) (C:Addr):Prop where
 pg:W.plainGet K C Str.empty=true
 hd:W.hasDictIn K C=true
 po:W.plainOver K C=true
 sa:W.findIn K (.ref C) "__setattr__"=some (some (.builtin "object.__setattr__"))
theorem Cls.get {K:W.Frag} {C:Addr} (c:Cls K C) (f:Str):W.plainGet K C f=true:=c.pg
structure Con (K:W.Frag) (C:Addr) (f:Str) (v:V) (u:Value):Prop where
 at_:W.findIn K (.ref C) f=some (some u)
 rel:zbg v u
 get:W.specialIn K u "__get__"=some none
 cp:W.copiedNames.contains f=false
structure zsI (K:W.Frag) (C:Addr) (m:Str) (f:Addr):Prop where
 at_:W.findIn K (.ref C) m=some (some (.ref f))
 fn:W.isFn K (.ref f)=true
 kp:W.keepIn K (.ref f)=true
section
variable {X:Cx} {pins:List (Addr×Obj)} {σ:St} {H:Hp} {s:Shared} {a C dx:Addr} {fs:List (Str×V)} {f:Str} {v:V} {A:Around} {E:Value->Shared->Prop}
theorem Inv.made (I:Inv X pins σ H s):Inv X pins σ (upd (upd H s.heap.objs.size (.own (s.heap.objs.size+1))) (s.heap.objs.size+1) (.ins C s.heap.objs.size []))
  {s with heap:=(s.heap.push W.emptyDict).push (W.instObj C s.heap.objs.size)}:=by
 have e1:(s.heap.push W.emptyDict).get? s.heap.objs.size=some W.emptyDict:=qar s.heap rfl
 have e2:((s.heap.push W.emptyDict).push (W.instObj C s.heap.objs.size)).get? (s.heap.objs.size+1)=some (W.instObj C s.heap.objs.size):=by
  have:=qar (s.heap.push W.emptyDict) (o:=W.instObj C s.heap.objs.size) rfl
  rwa [qaL] at this
 have e3:(s.heap.push W.emptyDict).Ns s.heap.objs.size (fun _=>none):=⟨W.emptyDict, #[],_,e1,rfl,(fun e he=>absurd he (by simp)),fun _=>rfl⟩
 have I1:=I.laid (a:=s.heap.objs.size) (o:= .own (s.heap.objs.size+1)) (h':=s.heap.push W.emptyDict) (t':=s.toks) (fun b u q=>qag _ q) (qaV _) ⟨_,e1⟩
 refine I1.laid (a:=s.heap.objs.size+1) (o:= .ins C s.heap.objs.size []) (t':=s.toks) (fun b u q=>qag _ q) (Nat.le_of_eq (qaL _ _)) ?_
 have ne:s.heap.objs.size≠s.heap.objs.size+1:=qaR (Nat.lt_succ_self _)
 refine ⟨by rw [zao ne,zau],Nat.zero_le _,ne,e2,fun _=>none,(Heap.Ns1.of_empty e3).at fun o q=>qag _ q,fun _=>True.intro,fun y hy=>absurd rfl hy⟩
end
section
variable {X:Cx} {o e value:Expr} {f:Str} {pos pos' tpos:Pos} {ta tv:TE}
end
section
variable {X:Cx} {pins:List (Addr×Obj)} {σ:St} {H:Hp} {s:Shared} {A:Around} {E:Value->Shared->Prop} {Q:Value->Shared->Prop} {c:Value} {b:Bool}
inductive zhu (K:W.Frag) (H:Hp):V->Value->Prop where
 | non:zhu K H .non (.type "NoneType")
 | bl (x:Bool):zhu K H (.bl x) (.type "bool")
 | int (i:Int):zhu K H (.int i) (.type "int")
 | str (x:Str):zhu K H (.str x) (.type "str")
 | flt (x:UInt64):zhu K H (.flt x) (.type "float")
 | lst {a:Addr} {xs:List V} (e:H a=some (.lst xs)):zhu K H (.ref a) (.type "list")
 | frz {a:Addr} {o:Obj} {xs:List V} (e:H a=some (.frz o (.lst xs))):zhu K H (.ref a) (.type "list")
 | tup {a:Addr} {xs:List V} (e:H a=some (.tup xs)):zhu K H (.ref a) (.type "tuple")
 | dK {a:Addr} {kvs:List (Key×V)} (e:H a=some (.dK kvs)):zhu K H (.ref a) (.type "dict")
 | dT {a:Addr} {kvs:List (List Key×V)} (e:H a=some (.dT kvs)):zhu K H (.ref a) (.type "dict")
 | ins {a C dx:Addr} {fs:List (Str×V)} (e:H a=some (.ins C dx fs)) (cl:Cls K C) (ha:W.findIn K (.ref C) "__class__"=some (some (.builtin "object.__class__")))
   (hn:W.specialIn K (.builtin "object.__class__") "__get__"=some (some (.builtin "getset_descriptor.__get__"))) (htk:W.takesIn K (.builtin "object.__class__")=some true)
   (hm:W.mroIn K C (.type "object")=some true):zhu K H (.ref a) (.ref C)
theorem zjk {x:V} {u t:Value} (I:Inv X pins σ H s) (rx:zbg x u) (ty:zhu X.K H x t) (e:W.kitOne X.K t c=some b) (h: ∀ tk,Q (.bool b) {s with toks:=tk}):
  wpAny (model X.prog X.w) A (call (.builtin "isinstance") [u,c]) Q E s:=by
 cases ty with
 | non=>cases (show u=Value.none from rx);exact W.kia_one W.kitx_none I.kIn True.intro e (fun z=>nomatch z) h
 | bl y=>cases (show u=Value.bool y from rx);exact W.kia_one W.kitx_bool I.kIn True.intro e (fun z=>nomatch z) h
 | int i=>obtain ⟨t,q⟩:=(show ∃ t,u=Value.int i t from rx);cases q;exact W.kia_one W.kitx_int I.kIn True.intro e (fun z=>nomatch z) h
 | str y=>obtain ⟨t,q⟩:=(show ∃ t,u=Value.str y t from rx);cases q;exact W.kia_one W.kitx_str I.kIn True.intro e (fun z=>nomatch z) h
 | flt y=>obtain ⟨t,q⟩:=(show ∃ t,u=Value.float y t from rx);cases q;exact W.kia_one W.kitx_float I.kIn True.intro e (fun z=>nomatch z) h
 | @lst a xs ea=>
  cases (show u=Value.ref a from rx)
  obtain ⟨_,_,n,_,h1⟩:=(show zbp X.prog X.w H s.heap a (.lst xs) from I.hok a _ ea)
  exact W.kia_one W.kitx_list I.kIn ⟨_,h1,rfl⟩ e (fun z=>nomatch z) h
 | @frz a ob xs ea=>
  cases (show u=Value.ref a from rx)
  obtain ⟨_,_,_,n,_,h1⟩:=(show zbp X.prog X.w H s.heap a (.frz ob (.lst xs)) from I.hok a _ ea)
  exact W.kia_one W.kitx_list I.kIn ⟨_,h1,rfl⟩ e (fun z=>nomatch z) h
 | @tup a xs ea=>
  cases (show u=Value.ref a from rx)
  obtain ⟨_,_,_,p⟩:=(show zbp X.prog X.w H s.heap a (.tup xs) from I.hok a _ ea)
  obtain ⟨o,h1,h2,_⟩:=p
  exact W.kia_one W.kitx_tuple I.kIn ⟨o,h1,h2⟩ e (fun z=>nomatch z) h
 | @dK a kvs ea=>
  cases (show u=Value.ref a from rx)
  obtain ⟨_,_,vs,_,p⟩:=(show zbp X.prog X.w H s.heap a (.dK kvs) from I.hok a _ ea)
  obtain ⟨o,es,ep,h1,h2,_⟩:=p
  exact W.kia_one W.kitx_dict I.kIn ⟨o,h1,h2.1⟩ e (fun z=>nomatch z) h
 | @dT a kvs ea=>
  cases (show u=Value.ref a from rx)
  obtain ⟨_,_,xs,_,o,es,ep,h1,h2,_⟩:=(show zbp X.prog X.w H s.heap a (.dT kvs) from I.hok a _ ea)
  exact W.kia_one W.kitx_dict I.kIn ⟨o,h1,h2.1⟩ e (fun z=>nomatch z) h
 | @ins a C dx fs ea cl ha hn htk hm=>
  cases (show u=Value.ref a from rx)
  obtain ⟨mA,O,_⟩:=zmY I.hok ea
  obtain ⟨od,J,_⟩:=O.look
  exact W.kia_one (W.kitx_own (cl.get _) cl.hd ha hn htk hm) I.kIn J e (fun z=>nomatch z) h
end
structure zcD (k:Nat) (A:Around):Prop where
 hd:A.handled=none
 dp:A.depth+3*k+5<recursionLimit
 un:A.units+16*k+200<cLine
theorem zcD.mono {j k:Nat} {A:Around} (r:zcD k A) (h:j<=k):zcD j A:=⟨r.hd,by have:=r.dp;omega,by have:=r.un;omega⟩
theorem zcD.deeper {k:Nat} {A:Around} (r:zcD (k+1) A) (env:Env):zcD k (A.deeper env):=
 ⟨r.hd,by have:=r.dp;show A.depth+1+3*k+5<_;omega,by have:=r.un;show A.units+3+16*k+200<_;omega⟩
theorem zcD.in1 {k:Nat} {A:Around} (r:zcD (k+1) A):zcD k A.in1:=
 ⟨r.hd,by have:=r.dp;show A.depth+3*k+5<_;omega,by have:=r.un;show A.units+1+16*k+200<_;omega⟩
theorem zcD.depth {k:Nat} {A:Around} (r:zcD k A):A.depth<recursionLimit:=by have:=r.dp;omega
theorem zcD.units {k:Nat} {A:Around} (r:zcD k A):A.units+64<cLine:=by have:=r.un;omega
noncomputable def zsd:TA:=fun _ H Q=>Q [] H
noncomputable def zqA (ta:TE) (tr:TA):TA:=fun σ H Q=>ta σ H fun x H1=>tr σ H1 fun xs H2=>Q (x::xs) H2
section
variable {X:Cx} {e:Expr} {es:List Expr} {te:TE} {t:TA} {pos:Pos}
theorem zcj:PA X [] zsd:=fun _ _ _ _ H Q I h=>Calls.spliced_nil ⟨[],H,I,.nil,h⟩
theorem za2 (ha:PE X e te) (hr:PA X es t) (hs:starEach (e::es) X.env=(false,eval e X.env)::starEach es X.env:=by rfl):PA X (e::es) (zqA te t):=by
 intro pos pins s σ H Q I h
 rw [hs]
 show wpAny _ _ (spliced ((false,eval e X.env)::backTo pos (starEach es X.env))) _ _ s
 refine Calls.spliced_cons (thn (ha pins s σ H _ I h) fun u s1 ⟨x,H1,I1,r1,q1⟩=> ?_)
 exact thn (hr pos pins s1 σ H1 _ I1 q1) fun us s2 ⟨xs,H2,I2,r2,q2⟩=>⟨x::xs,H2,I2,.cons r1 r2,q2⟩
noncomputable def zsn (t:TA):TE:=fun σ H Q=>t σ H fun xs H1=>xs.length<=sizeLine/\ ∀ p,H1 p=none->Q (.ref p) (upd H1 p (.tup xs))
noncomputable def zrV (t:TA):TE:=fun σ H Q=>t σ H fun xs H1=>xs.length<=sizeLine/\ ∀ p,H1 p=none->Q (.ref p) (upd H1 p (.lst xs))
theorem zqk {x1} (h:PA X es t):PE X (.Tuple es x1 pos) (zsn t):=by
 intro pins s σ H Q I hq
 refine wpAny_Tuple_spliced (thn (h pos pins s σ H _ I hq) fun us s1 ⟨xs,H1,I1,r,z,q⟩=>⟨by rw [<- r.length];exact z,?_⟩)
 have hf:H1 s1.heap.objs.size=none:=I1.hok.fresh (qaV _)
 refine ⟨.ref s1.heap.objs.size,upd H1 s1.heap.objs.size (.tup xs),I1.laid (t':=s1.toks) (fun b u e=>qag _ e) (qaV _) ?_,rfl,q _ hf⟩
 exact ⟨z,us,r,⟨_,qar _ rfl,rfl,_,rfl⟩⟩
theorem zl5 (h:PA X es t):PE X (.List es pos) (zrV t):=by
 intro pins s σ H Q I hq
 refine wpAny_List_spliced (thn (h pos pins s σ H _ I hq) fun us s1 ⟨xs,H1,I1,r,z,q⟩=>⟨by rw [<- r.length];exact z,?_⟩)
 have hf:H1 s1.heap.objs.size=none:=I1.hok.fresh (qaV _)
 refine ⟨.ref s1.heap.objs.size,upd H1 s1.heap.objs.size (.lst xs),I1.laid (t':=s1.toks) (fun b u e=>qag _ e) (qaV _) ?_,rfl,q _ hf⟩
 exact ⟨z,us,0,r,qar _ rfl⟩
end
noncomputable abbrev Sp:=List V->Hp->VK->XK->Prop
noncomputable abbrev CXT:=List Env->Hp->Shared->XK->Value->Shared->Prop
structure zkz (P:Program) (w:World) (K:W.Frag) (mg:Str->Option Value) (base:Heap) (A:Around) (outer:List Env) (s:Shared) (H:Hp):Prop where
 frames:A.frames=some outer
 mod:Mod K mg base
 bs: ∀ b o,base.get? b=some o->s.heap.get? b=some o/\H b=none
 bsz:base.objs.size<=s.heap.objs.size
 funs:s.heap.FunFrames base outer
 frf: ∀ b∈frs outer,H b=none
 hok:HOk P w H s.heap
 bare:AllBare s.gens
 hand:zfy A H
def CE (outer:List Env) (P:Program) (w:World) (H:Hp) (s:Shared) (Q:VK) (u:Value) (s':Shared):Prop:=
 ∃ v H',s'.os=s.os/\AllBare s'.gens/\Un (frs outer) [] H H' s.heap s'.heap/\HOk P w H' s'.heap/\zbg v u/\Q v H'
def CR (CX:CXT) (outer:List Env) (P:Program) (w:World) (H:Hp) (s:Shared) (Q:VK) (E:XK) (r:Result) (s':Shared):Prop:=
 match r with
 | .ok (.ret u)=>CE outer P w H s Q u s'
 | .ok _=>False
 | .error e=>CX outer H s E e s'
structure zbZ (P:Program) (w:World) (K:W.Frag) (mg:Str->Option Value) (base:Heap) (CX:CXT) (k:Nat) (f:Addr) (fd:FuncData) (ps:List Str) (sp:Sp):Prop where
 len: ∀ vs H Q E,sp vs H Q E->vs.length=ps.length
 run: ∀ (A:Around) (outer:List Env) (s:Shared) (H:Hp) (args:Args) (us:List Value) (vs:List V) (Q:VK) (E:XK),zcD k A->zkz P w K mg base A outer s H->BindsTo s fd args (ps.zip us)->zaI vs us->sp vs H Q E->
  codeAny (model P w) A (.call (.ref f) args) (CR CX outer P w H s Q E) s
theorem zbZ.mono {P:Program} {w:World} {K:W.Frag} {mg:Str->Option Value} {base:Heap} {CX:CXT} {j k:Nat} {f:Addr} {fd:FuncData} {ps:List Str} {sp:Sp} (F:zbZ P w K mg base CX j f fd ps sp) (h:j<=k):
  zbZ P w K mg base CX k f fd ps sp:=⟨F.len,fun A outer s H args us vs Q E hr=>F.run A outer s H args us vs Q E (hr.mono h)⟩
theorem zbZ.imp {P:Program} {w:World} {K:W.Frag} {mg:Str->Option Value} {base:Heap} {CX:CXT} {k:Nat} {f:Addr} {fd:FuncData} {ps:List Str} {sp sp':Sp} (F:zbZ P w K mg base CX k f fd ps sp)
  (h: ∀ vs H Q E,sp' vs H Q E->sp vs H Q E):zbZ P w K mg base CX k f fd ps sp':=
 ⟨fun vs H Q E q=>F.len vs H Q E (h _ _ _ _ q),fun A outer s H args us vs Q E hr he hb hv hs=>F.run A outer s H args us vs Q E hr he hb hv (h _ _ _ _ hs)⟩
theorem zkz.in1 {P:Program} {w:World} {K:W.Frag} {mg:Str->Option Value} {base:Heap} {A:Around} {outer:List Env} {s:Shared} {H:Hp} (e:zkz P w K mg base A outer s H):
  zkz P w K mg base A.in1 outer s H:=⟨e.frames,e.mod,e.bs,e.bsz,e.funs,e.frf,e.hok,e.bare,e.hand⟩
section
variable {X:Cx} {pins:List (Addr×Obj)} {σ:St} {H:Hp} {s s':Shared}
theorem Inv.env0 (I:Inv X pins σ H s):zkz X.prog X.w X.K X.mg X.base X.A X.stack s H:=
 ⟨I.ok.frames,I.ok.mod,I.bs,qaS I.ok.bsz I.sz,I.stack,I.stkFree,I.hok,I.bare,I.handA⟩
theorem Inv.after {Q:VK} {u:Value} (I:Inv X pins σ H s) (h:CE X.stack X.prog X.w H s Q u s'):EP X pins σ Q u s':=by
 obtain ⟨v,H',os,bare,un,hok,r,q⟩:=h
 obtain ⟨hh,g,d,t,os'⟩:=s'
 obtain rfl:os'=s.os:=os
 exact ⟨v,H',I.call (h':=hh) (g':=g) (d':=d) (t':=t) (ch:=[]) un hok bare (fun b z=>absurd z (by simp)),r,q⟩
end
noncomputable def zqF (sp:Sp) (dvs:List V) (E:XK) (t:TA):TE:=fun σ H Q=>t σ H fun vs H1=>sp (vs++dvs) H1 Q E
def zaQ (K:W.Frag) (fd:FuncData) (ps:List Str) (ds:List Value):Prop:=
 ∀ (s:Shared) (us:List Value),K.In s.heap->(us++ds).length=ps.length->BindsTo s fd ⟨us,[]⟩ (ps.zip (us++ds))
theorem zaQ.all {K:W.Frag} {fd:FuncData} {ps:List Str} (h: ∀ us:List Value,us.length=ps.length->bindArgs fd ⟨us,[]⟩=pure (ps.zip us)):zaQ K fd ps []:=fun s us _ hl=>by
 rw [List.append_nil] at hl ⊢
 exact .of_eq (h us hl)
def zcW (CX:CXT) (X:Cx) (E:XK):Prop:= ∀ (pins:List (Addr×Obj)) (σ:St) (H:Hp) (s:Shared) (e:Value) (s':Shared),Inv X pins σ H s->CX X.stack H s E e s'->X.xe e s'
section
variable {X:Cx} {CX:CXT} {k:Nat} {f C:Addr} {fd:FuncData} {ps:List Str} {sp:Sp} {dvs:List V} {ds:List Value} {E:XK} {x m:Str} {p pos apos:Pos} {e o:Expr} {es:List Expr} {ta:TE} {t:TA}
theorem zoI {pins:List (Addr×Obj)} {σ:St} {H:Hp} {s:Shared} {Q:VK} {us:List Value} {vs:List V} (F:zbZ X.prog X.w X.K X.mg X.base CX k f fd ps sp) (hr:zcD k X.A) (hb:zaQ X.K fd ps ds) (hd:zaI dvs ds) (hx:zcW CX X E)
  (I:Inv X pins σ H s) (r:zaI vs us) (h:sp (vs++dvs) H Q E):wpAny (model X.prog X.w) X.A (call (.ref f) us) (EP X pins σ Q) X.xe s:=by
 have r2:zaI (vs++dvs) (us++ds):=r.append hd
 have hl:(us++ds).length=ps.length:=by rw [<- r2.length];exact F.len _ _ _ _ h
 refine wpAny_call (codeAny_mono (F.run X.A X.stack s H ⟨us,[]⟩ (us++ds) (vs++dvs) Q E hr I.env0 (hb s us I.kIn hl) r2 h) fun r s' hq=> ?_)
 cases r with
 | error e=>exact hx pins σ H s e s' I hq
 | ok fl=>
  cases fl with
  | ret u=>exact I.after hq
  | next=>exact qa0 hq
  | brk=>exact qa0 hq
  | cont=>exact qa0 hq
theorem zgR (F:zbZ X.prog X.w X.K X.mg X.base CX k f fd ps sp) (hr:zcD k X.A) (hg:Gl X x) (hm:X.mg x=some (.ref f)) (hk:W.keepIn X.K (.ref f)=true) (hb:zaQ X.K fd ps ds) (hd:zaI dvs ds) (hx:zcW CX X E)
  (ha:PA X (e::es) t) (hdb:(x==("__debug__":Str))=false:=by decide) (he:starEach (e::es) X.env=(false,eval e X.env)::starEach es X.env:=by rfl) (hpl:(backTo pos (starEach es X.env)).any (·.1)=false:=by rfl):
  PE X (.Call (.Name x p) (e::es) [] pos) (zqF sp dvs E t):=by
 intro pins s σ H Q I h
 refine wpAny_Call_Name_kw (zgy I hg hm ?_ hdb)
 refine W.callWith_K (h₀:=X.base) I.ok.mod.kin hk (thn (ha pos pins s σ H _ I h) fun us s1 ⟨vs,H1,I1,r,q⟩=>⟨I1.kIn,?_⟩) he hpl
 exact zoI F hr hb hd hx I1 r q
structure Mk (K:W.Frag) (C f:Addr):Prop where
 makes:W.makesIn K C=true
 init:W.findIn K (.ref C) "__init__"=some (some (.ref f))
 fn:W.isFn K (.ref f)=true
 kp:W.keepIn K (.ref C)=true
end
section
variable {X:Cx} {CX:CXT} {k:Nat} {f C:Addr} {fd:FuncData} {ps ks:List Str} {sp:Sp} {E:XK} {x m:Str} {p pos apos kpos:Pos} {e o:Expr} {es:List Expr} {kws:List Keyword} {te ta:TE} {t tk:TA} {nm:Option Str}
structure zrW (K:W.Frag) (fd:FuncData) (ps ks:List Str) (g:List Value->List Value->List Value) (gV:List V->List V->List V):Prop where
 to: ∀ (s:Shared) (us ws:List Value),K.In s.heap->(g us ws).length=ps.length->BindsTo s fd ⟨us,ks.zip ws⟩ (ps.zip (g us ws))
 rel: ∀ {vs:List V} {us:List Value} {zs:List V} {ws:List Value},zaI vs us->zaI zs ws->zaI (gV vs zs) (g us ws)
variable {g:List Value->List Value->List Value} {gV:List V->List V->List V}
end
structure zar (N P:List Str) (sc:Scope):Prop where
 kind:sc.kind= .function
 co:sc.isCoroutine=false
 gen:sc.isGenerator=false
 nd:N.Nodup
 pre:N.take P.length=P
 par: ∀ x∈P,sc.names.lookup x=some .local\/sc.names.lookup x=some .cell
 nofree: ∀ y∈sc.names,y.2≠ .free
theorem zft {kindOf:Str->Option NameKind} {x:Str}: ∀ {binds:List (Str×Value)} {m:Str->Option Value},(∀ v,(x,v)∉binds)->bindL kindOf binds m x=m x
 | [],_,_=>rfl
 | (n,v)::r,m,h=>by
  unfold bindL
  rw [zft fun w hw=>h w (qan _ hw)]
  split
  ·have:x≠n:=by rintro rfl;exact h v qau
   simp [this]
  ·rfl
theorem zfA {kindOf:Str->Option NameKind} {x:Str}: ∀ {binds:List (Str×Value)} {m:Str->Option Value},(∀ v,(x,v)∉binds)->bindC kindOf binds m x=m x
 | [],_,_=>rfl
 | (n,v)::r,m,h=>by
  unfold bindC
  rw [zfA fun w hw=>h w (qan _ hw)]
  split
  ·rfl
  ·have:x≠n:=by rintro rfl;exact h v qau
   simp [this]
theorem zfB {kindOf:Str->Option NameKind} {x:Str} {v:Value}: ∀ {P:List Str} {vs:List Value} {i:Nat} {m:Str->Option Value},P.Nodup->P[i]? = some x->vs[i]? = some v->kindOf x=some .local->
  bindL kindOf (P.zip vs) m x=some v
 | [],_,_,_,_,h,_,_=>by simp at h
 | _::_,[],_,_,_,_,h,_=>by simp at h
 | p::P,w::vs,0,m,nd,h1,h2,hk=>by
  simp at h1 h2;subst h1;subst h2
  show bindL kindOf ((p,w)::P.zip vs) m p=_
  unfold bindL
  rw [zft fun v hv=>(List.nodup_cons.mp nd).1 (List.of_mem_zip hv).1,qa4 hk]
  simp
 | p::P,w::vs,i+1,m,nd,h1,h2,hk=>by
  show bindL kindOf ((p,w)::P.zip vs) m x=_
  unfold bindL
  exact zfB (i:=i) (List.nodup_cons.mp nd).2 (by simpa using h1) (by simpa using h2) hk
theorem zgb {kindOf:Str->Option NameKind} {x:Str} {v:Value}: ∀ {P:List Str} {vs:List Value} {i:Nat} {m:Str->Option Value},P.Nodup->P[i]? = some x->vs[i]? = some v->kindOf x≠some .local->
  bindC kindOf (P.zip vs) m x=some v
 | [],_,_,_,_,h,_,_=>by simp at h
 | _::_,[],_,_,_,_,h,_=>by simp at h
 | p::P,w::vs,0,m,nd,h1,h2,hk=>by
  simp at h1 h2;subst h1;subst h2
  show bindC kindOf ((p,w)::P.zip vs) m p=_
  unfold bindC
  rw [zfA fun v hv=>(List.nodup_cons.mp nd).1 (List.of_mem_zip hv).1,qa5 hk]
  simp
 | p::P,w::vs,i+1,m,nd,h1,h2,hk=>by
  show bindC kindOf ((p,w)::P.zip vs) m x=_
  unfold bindC
  exact zgb (i:=i) (List.nodup_cons.mp nd).2 (by simpa using h1) (by simpa using h2) hk
noncomputable def zdo (N:List Str) (vs:List V):St:=vs.map some++List.replicate (N.length - vs.length) none
noncomputable def zgj (CX:CXT) (P:Program) (w:World) (K:W.Frag) (mg:Str->Option Value) (base:Heap) (N:List Str) (qual:Str) (scope:Scope) (f:Addr) (cd:Value) (A:Around) (outer:List Env) (s:Shared) (H:Hp) (E:XK):Cx where
 prog:=P
 w:=w
 K:=K
 mg:=mg
 base:=base
 A:=A.deeper (envOfC qual scope s.heap.objs.size f cd)
 N:=N
 s₀:=s
 H₀:=H
 env:=envOfC qual scope s.heap.objs.size f cd
 outer:=outer
 stack:=envOfC qual scope s.heap.objs.size f cd::outer
 ex:=[]
 calm:=true
 fn:=fun _=>true
 pn:=[]
 xe:=fun e s'=>wpAny (model P w) (A.deeper (envOfC qual scope s.heap.objs.size f cd)) (leaving (envOfC qual scope s.heap.objs.size f cd) e) (fun _ s''=>CX outer H s E e s'') (fun e' s''=>CX outer H s E e' s'') s'
theorem zg2 {sc:Scope} {n:Nat} {x:Str} (h:sc.names.lookup x=some .cell): ∃ c,(cellsFrom n sc.names []).lookup x=some c:=by
 have q:=W.cellsFrom_some sc.names n [] (.inl h)
 exact Option.isSome_iff_exists.mp q
theorem zgh {CX:CXT} {P:Program} {w:World} {K:W.Frag} {mg:Str->Option Value} {base:Heap} {N ps:List Str} {qual:Str} {scope:Scope} {f:Addr} {cd:Value} {A:Around} {outer:List Env} {s s1:Shared} {H:Hp} {E:XK} {us:List Value} {vs:List V}
  (S:zar N ps scope) {cm:Bool} (hd:cm=true->A.handled=none) (e0:zkz P w K mg base A outer s H) (hl:vs.length=ps.length) (r:zaI vs us)
  (x:InCallC s s.heap.objs.size (bindL (envOfC qual scope s.heap.objs.size f cd).kindOf (ps.zip us) fun _=>none) (cellsFrom (s.heap.objs.size+1) scope.names []) (bindC (envOfC qual scope s.heap.objs.size f cd).kindOf (ps.zip us) fun _=>none) s1):
  Inv {zgj CX P w K mg base N qual scope f cd A outer s H E with calm:=cm} [] (zdo N vs) H s1:=by
 have hpl:ps.length<=N.length:=by have:=congrArg List.length S.pre;rw [List.length_take] at this;omega
 obtain ⟨h1,tk,rfl,hk⟩:=x.done
 have noA: ∀ b:Addr,b∉(zgj CX P w K mg base N qual scope f cd A outer s H E).ex:=fun b z=>absurd (show b∈([]:List Addr) from z) (by simp)
 refine ⟨⟨e0.mod,S.kind,rfl,rfl,qaV _,fun y z c h1 h2=> ?_,fun y hy=> ?_,fun y c _ h=> ?_,hd,e0.hand,Around.frames_deeper e0.frames,.inr ⟨rfl,rfl⟩,fun b z=>absurd z (noA b),e0.bs,e0.bsz,fun b _ _=>noA b,fun b z=>absurd z (noA b),e0.funs,e0.frf⟩,
   rfl,e0.bare,Un.kept hk,⟨_,x.toInCall.ns,fun i y v h1 h2 h3=> ?_⟩,fun y c h=>⟨_,x.cell y c h⟩,e0.hok.fresh (qaV _),fun y c h=> ?_,fun p hp=>absurd (show p∈([]:List (Addr×Obj)) from hp) (by simp),e0.hok.kept hk,?_⟩
 ·exact name_of_addr x.apart (PySem.mem_of_lookup h1) (PySem.mem_of_lookup h2)
 ·have hy:scope.names.lookup y=some .cell\/scope.names.lookup y=some .free:=hy
  rcases hy with hy | hy
  ·exact zg2 hy
  ·exact absurd rfl (S.nofree _ (PySem.mem_of_lookup hy))
 ·exact Nat.le_of_lt (x.above y c (PySem.mem_of_lookup h))
 ·have hi:i<vs.length:=by
   unfold zdo at h2
   by_cases hi:i<vs.length
   ·exact hi
   ·rw [qaa (by simpa using hi)] at h2
    rw [List.getElem?_replicate] at h2
    split at h2<;>cases h2
  have ha:vs[i]? = some v:=by
   unfold zdo at h2
   rw [qad (by simpa using hi),List.getElem?_map] at h2
   cases e:vs[i]? with
   | none=>rw [e] at h2;cases h2
   | some a=>rw [e] at h2;cases h2;rfl
  obtain ⟨u,hu,rv⟩:=r.get ha
  have hp:ps[i]? = some y:=by
   rw [<- S.pre,List.getElem?_take_of_lt (by omega)];exact h1
  have ndP:ps.Nodup:=by rw [<- S.pre];exact S.nd.sublist (List.take_sublist _ _)
  refine ⟨u,rv,?_⟩
  rcases S.par y (List.mem_of_getElem? hp) with k | k
  ·exact .inl ⟨k,zfB ndP hp hu k⟩
  ·obtain ⟨c,e⟩:=zg2 (n:=s.heap.objs.size+1) k
   refine .inr ⟨.inl k,c,e,?_⟩
   have q:=x.cell y c e
   rw [zgb ndP hp hu (by show scope.names.lookup y≠_;rw [k];decide)] at q
   exact q
 ·exact e0.hok.fresh (Nat.le_of_lt (x.above y c (PySem.mem_of_lookup h)))
 ·unfold zdo
  show _=N.length
  rw [qav,qaH,List.length_replicate]
  omega
theorem zpq {CX:CXT} {P:Program} {w:World} {K:W.Frag} {mg:Str->Option Value} {base:Heap} {k:Nat} {f:Addr} {name qual:Str} {params:Arguments} {body:List Stmt} {scope:Scope} {dV kV doc pm cdv ct oc:Value} {an od:Option Addr}
  {osl:Array (Option Value)} {N ps:List Str} {sp:Sp} (lk:K.lookup f=some ⟨oc,od,.func (W.fnOf name qual params body scope dV kV doc pm an cdv ct),osl⟩) (hcd:W.codeIn K cdv qual=true) (S:zar N ps scope)
  (len: ∀ vs H Q E,sp vs H Q E->vs.length=ps.length)
  (hbody: ∀ (A:Around) (outer:List Env) (s:Shared) (H:Hp) (vs:List V) (Q:VK) (E:XK),zcD k (A.deeper (envOfC qual scope s.heap.objs.size f cdv))->sp vs H Q E->
    ∃ t,PSs (zgj CX P w K mg base N qual scope f cdv A outer s H E) body t/\t {nx:=fun _ H'=>Q .non H',rt:=Q} (zdo N vs) H):
  zbZ P w K mg base CX (k+1) f (W.fnOf name qual params body scope dV kV doc pm an cdv ct) ps sp:=by
 refine ⟨len,fun A outer s H args us vs Q E hr e0 hb r hsp=> ?_⟩
 have hl:=len _ _ _ _ hsp
 have KX:K.In s.heap:=e0.mod.kin.keeps fun b o e=>(e0.bs b o e).1
 have lim:s.heap.NoLimit:=e0.mod.nolimit.keeps fun b o e=>(e0.bs b o e).1
 have hkind: ∀ y∈ps.zip us,scope.names.lookup y.1=some .local\/(scope.names.lookup y.1=some .cell/\((cellsFrom (s.heap.objs.size+1) scope.names []).lookup y.1).isSome=true):=fun ⟨n,v⟩ hy=>by
  rcases S.par n (List.of_mem_zip hy).1 with q | q
  ·exact .inl q
  ·exact .inr ⟨q,W.cellsFrom_some _ _ _ (.inl q)⟩
 refine codeAny_call_function hr.depth (KX _ _ lk) rfl S.co S.gen rfl (W.codeRec_of KX hcd) (hb _ _ _ _ ?_)
 refine wpAny_newFunctionEnv_cells S.kind hkind fun env he s1 x=> ?_
 subst he
 refine ⟨lim.keeps x.toInCall.keep,codeAny_func ?_⟩
 obtain ⟨t,ht,hq⟩:=hbody A outer s H vs Q E (hr.deeper _) hsp
 have I:Inv (zgj CX P w K mg base N qual scope f cdv A outer s H E) [] (zdo N vs) H s1:=zgh (cm:=true) S (fun _=>hr.hd) e0 hl r x
 refine qaZ (ht [] s1 (zdo N vs) H _ I hq) (fun fl s' hs=> ?_) fun e s' hs=>hs
 have fin: ∀ {σ':St} {H':Hp} {v:V} {u:Value},Inv (zgj CX P w K mg base N qual scope f cdv A outer s H E) [] σ' H' s'->zbg v u->Q v H'->CE outer P w H s Q u s':=
  fun {σ' H' v u} J rv q=>⟨v,H',J.os,J.bare,J.base,J.hok,rv,q⟩
 cases fl with
 | ret u=>
  obtain ⟨v,σ',H',J,rv,q⟩:=hs
  exact fin J rv q
 | next=>
  obtain ⟨σ',H',J,q⟩:=hs
  exact fin (v:=V.non) (u:=Value.none) J rfl q
 | brk=>
  obtain ⟨_,_,_,q⟩:=hs
  exact qa0 q
 | cont=>
  obtain ⟨_,_,_,q⟩:=hs
  exact qa0 q
section
variable {X:Cx} {x:Str} {p pos:Pos} {e:Expr} {es:List Expr} {t:TA} {id T:String} {r:List V->Hp->VK->Prop}
noncomputable def tCB (r:List V->Hp->VK->Prop) (t:TA):TE:=fun σ H Q=>t σ H fun vs H1=>r vs H1 Q
theorem zc7 (hc:zax X (.builtin id) r) (hg:Gl X x) (hm:X.mg x=none) (hv:bootBuiltins x=some (.builtin id)) (ha:PA X (e::es) t) (hn:x≠"__name__":=by decide) (hdb:(x==("__debug__":Str))=false:=by decide)
  (he:starEach (e::es) X.env=(false,eval e X.env)::starEach es X.env:=by rfl) (hpl:(backTo pos (starEach es X.env)).any (·.1)=false:=by rfl):PE X (.Call (.Name x p) (e::es) [] pos) (tCB r t):=by
 intro pins s σ H Q I h
 refine wpAny_Call_Name_kw (zhk I hg hm hv ?_ hn hdb)
 exact PyProof.Rows.callWith_builtin1 (thn (ha pos pins s σ H _ I h) fun us s1 ⟨vs,H1,I1,r1,q1⟩=>hc pins s1 σ H1 vs us Q I1 r1 q1) he hpl
theorem zdb (hc:zax X (.type T) r) (hg:Gl X x) (hm:X.mg x=none) (hv:bootBuiltins x=some (.type T)) (ha:PA X (e::es) t) (hn:x≠"__name__":=by decide) (hdb:(x==("__debug__":Str))=false:=by decide)
  (he:starEach (e::es) X.env=(false,eval e X.env)::starEach es X.env:=by rfl) (hpl:(backTo pos (starEach es X.env)).any (·.1)=false:=by rfl):PE X (.Call (.Name x p) (e::es) [] pos) (tCB r t):=by
 intro pins s σ H Q I h
 refine wpAny_Call_Name_kw (zhk I hg hm hv ?_ hn hdb)
 exact PyProof.Rows.callWith_type1 (thn (ha pos pins s σ H _ I h) fun us s1 ⟨vs,H1,I1,r1,q1⟩=>hc pins s1 σ H1 vs us Q I1 r1 q1) he hpl
end
end L2
namespace HT
open PySem PyProof.Rows
noncomputable def zci:List Int->List Int->Bool
 | [],[]=>false
 | [],_::_=>true
 | _::_,[]=>false
 | x::xs,y::ys=>if x=y then zci xs ys else decide (x<y)
theorem zbs (x y:Int) (xs ys:List Int):zci (x::xs) (y::ys)=if x=y then zci xs ys else decide (x<y):=rfl
theorem zkT (A:Around) (s:Shared) (a:Int) (t:Tok) (c:Int) (u:Tok) (prog:Program) (w:World) (E:Value->Shared->Prop) (Q:Value->Shared->Prop) (h:Q (.bool (decide (a<c))) s):
  wpAny (model prog w) A (richCompare .Lt (.int a t) (.int c u)) Q E s:=
 (PyProof.Rows.lt_int h:wpAny (model prog w) A (compareOp .Lt (.int a t) (.int c u)) Q E s)
section
open PySem.SeqAt
open PySem.AutoSeq1 (wpAny_loadPart')
open PySem.MeetsSeq PySem.MeetsSeq2 PySem.MeetsSeq3
end
section
variable {prog:Program} {w:World} {A:Around} {E:Value->Shared->Prop} {s:Shared}
theorem zn2 {t b:Addr} {vs ws:List Value} {Q:Value->Shared->Prop} (ht:IsTup s.heap t vs.toArray) (hb:IsTup s.heap b ws.toArray) (hv:vs≠[])
  (h1:ws=[]->Q (.ref t) s) (h2:ws≠[]->Q (.ref s.heap.objs.size) {s with heap:=s.heap.push {cls:= .type "tuple",data:= .seq (vs++ws).toArray}})
  (hsz:vs.length+ws.length<=sizeLine):wpAny (model prog w) A (binaryOp .Add (.ref t) (.ref b)) Q E s:=by
 obtain ⟨⟨cls,dd,data,sl⟩,ho,hc,n,hd⟩:=id ht
 obtain ⟨⟨cls2,dd2,data2,sl2⟩,ho2,hc2,n2,hd2⟩:=id hb
 simp only at hc hd hc2 hd2
 subst hc hd hc2 hd2
 have e:vs.toArray++ws.toArray=(vs++ws).toArray:=by simp
 by_cases hw:ws=[]
 ·exact concat_meets ⟨_,ho,rfl⟩ ⟨_,ho2,rfl⟩ noFill_tuple_add seq_tuple_add PySem.F.slot_tuple_add PySem.F.entry_tuple_add (PySem.F.args_tuple_add_2 _ _)
   (tuple_addW1 t b vs.toArray ws.toArray n n2 dd dd2 sl sl2 (by simpa using hv) (by simp [hw])) ⟨ho,ho2,h1 hw⟩
 ·refine concat_meets ⟨_,ho,rfl⟩ ⟨_,ho2,rfl⟩ noFill_tuple_add seq_tuple_add PySem.F.slot_tuple_add PySem.F.entry_tuple_add (PySem.F.args_tuple_add_2 _ _)
   (tuple_addW2 t b vs.toArray ws.toArray n n2 dd dd2 sl sl2 (by simpa using hv) (by simpa using hw) (by rw [qaA,qaA];exact hsz)) ⟨ho,ho2,?_⟩
  rw [e]
  exact h2 hw
noncomputable def sIx (n d:Nat):Option Int->Nat
 | none=>d
 | some v=>if v<0 then (v+(n:Int)).toNat else min v.toNat n
theorem zjh (n d k:Nat):sIx n d (some (k:Int))=min k n:=by
 show (if (k:Int)<0 then ((k:Int)+(n:Int)).toNat else min (k:Int).toNat n)=min k n
 rw [qa5 (by omega),qaB]
theorem zpB (n d:Nat) (hd:d<=n) (o:Option Int):sIx n d o<=n:=by
 cases o with
 | none=>exact hd
 | some v=>
  show (if v<0 then (v+(n:Int)).toNat else min v.toNat n)<=n
  by_cases hv:v<0
  ·rw [qa4 hv];omega
  ·rw [qa5 hv];exact Nat.min_le_right _ _
theorem zjq (v:Int) (n d:Nat):(if v<0 then max (v+(n:Int)) 0 else min v (n:Int))=((sIx n d (some v):Nat):Int):=by
 show (if v<0 then max (v+(n:Int)) 0 else min v (n:Int))=(((if v<0 then (v+(n:Int)).toNat else min v.toNat n):Nat):Int)
 by_cases hv:v<0
 ·simp only [qa4 hv];omega
 ·simp only [qa5 hv];omega
theorem zhY (lo hi:Option Int) (n:Nat):Builtin.Slice.sliceAdjust lo hi 1 (n:Int)=(((sIx n 0 lo:Nat):Int),((sIx n n hi:Nat):Int)):=by
 have h1: ¬((1:Int)<0):=by omega
 unfold Builtin.Slice.sliceAdjust
 simp only [h1,if_false]
 refine Prod.ext ?_ ?_
 ·cases lo with
  | none=>rfl
  | some v=>exact zjq v n 0
 ·cases hi with
  | none=>rfl
  | some v=>exact zjq v n n
theorem zhP (i j:Nat):Builtin.Slice.slicePlaces (i:Int) (j:Int) 1=j - i:=by
 unfold Builtin.Slice.slicePlaces
 have h1:(1:Int)>0:=by omega
 simp only [h1,if_true,Int.ediv_one]
 split<;>omega
theorem zeD {v:Value} {o:Option Int} {Q:Option Int->Shared->Prop} (p:IsPart v o) (h:Q o s):wpAny (model prog w) A (Builtin.Slice.slicePartIndex v) Q E s:=by
 cases p with
 | none=>exact slicePart_none h
 | int i t=>exact slicePart_int h
theorem zcf {sl:Addr} {vl vu:Value} {lo hi:Option Int} {n:Nat} {Q:Int×Int×Nat->Shared->Prop} (hs:s.heap.IsSliceOf sl vl vu .none) (pl:IsPart vl lo) (pu:IsPart vu hi)
  (h:Q (((sIx n 0 lo:Nat):Int),1,sIx n n hi - sIx n 0 lo) s):wpAny (model prog w) A (Builtin.Slice.sliceApplied (.ref sl) (pure (n:Int))) Q E s:=by
 obtain ⟨os,hos,hcs,hds⟩:=id hs
 unfold Builtin.Slice.sliceApplied Builtin.Slice.sliceFields
 refine qaW (qaW (wpAny_field hos hds (x:=vl) rfl (qaW (wpAny_field hos hds (x:=vu) rfl (qaW (wpAny_field hos hds (x:= .none) rfl (qaX ?_)))))))
 refine qaW (slicePart_none ?_)
 show wpAny _ _ (if ((1:Int)==0)=true then _ else _) _ _ s
 rw [qa5 (by decide)]
 refine qaW (zeD pl (qaW (zeD pu (qaW (qaX ?_)))))
 show wpAny _ _ (match Builtin.Slice.sliceAdjust lo hi 1 (n:Int) with | (lo,hi)=>pure (lo,(1:Int),Builtin.Slice.slicePlaces lo hi 1)) _ _ s
 rw [zhY lo hi n]
 show wpAny _ _ (pure (((sIx n 0 lo:Nat):Int),(1:Int),Builtin.Slice.slicePlaces ((sIx n 0 lo:Nat):Int) ((sIx n n hi:Nat):Int) 1)) _ _ s
 rw [zhP]
 exact qaX h
theorem zlt (xs:Array Value) (i k:Nat):((List.range k).filterMap fun (m:Nat)=>xs[((i:Int)+(m:Int)*1).toNat]?).toArray=((xs.toList.drop i).take k).toArray:=by
 have e:(fun (m:Nat)=>xs[((i:Int)+(m:Int)*1).toNat]?)=fun m=>xs[i+m]? := by
  funext m
  have:((i:Int)+(m:Int)*1).toNat=i+m:=by omega
  rw [this]
 rw [e]
 have:=pick_run xs i k
 rw [List.filterMap_map] at this
 have e2:((fun x=>xs[x]?)∘fun x=>i+x)=fun m=>xs[i+m]? := rfl
 rw [e2] at this
 rw [this]
theorem zdl {t sl:Addr} {items:Array Value} {vl vu:Value} {lo hi:Option Int} {Q:Value->Shared->Prop} (ht:IsTup s.heap t items) (hs:s.heap.IsSliceOf sl vl vu .none) (pl:IsPart vl lo) (pu:IsPart vu hi)
  (hw: ¬(sIx items.size 0 lo=0/\sIx items.size items.size hi=items.size))
  (h:Q (.ref s.heap.objs.size) {s with heap:=s.heap.push {cls:= .type "tuple",data:= .seq ((items.toList.drop (sIx items.size 0 lo)).take (sIx items.size items.size hi - sIx items.size 0 lo)).toArray}})
  (hsz:items.size<=sizeLine):wpAny (model prog w) A (getItem (.ref t) (.ref sl)) Q E s:=by
 have htake:sizeOk (.seq ((items.toList.drop (sIx items.size 0 lo)).take (sIx items.size items.size hi - sIx items.size 0 lo)).toArray):=by
  show ((items.toList.drop (sIx items.size 0 lo)).take (sIx items.size items.size hi - sIx items.size 0 lo)).toArray.size<=sizeLine
  rw [qaA,List.length_take,List.length_drop,qas]
  omega
 have hj:sIx items.size items.size hi<=items.size:=zpB _ _ (qaV _) hi
 obtain ⟨os,hos,hcs,hds⟩:=id hs
 have hTs:s.TypeIs (.ref sl) "slice":=⟨os,hos,hcs⟩
 unfold getItem
 try with_reducible refine qaO ?_
 first | refine qaW (qaX ?_) | skip
 refine qaW (wpAny_sequenceKey ht.typeIs (by decide) ?_)
 refine qaW (wpAny_callSpecial?_slot (name:=Str.ofString "__getitem__") ht.typeIs PyProof.Rows.slot_tuple_getitem
   (wpAny_call_entry PyProof.Rows.slot_tuple_getitem ht.typeIs entry_tuple_getitem ?_ (args_tuple_getitem _ _)))
 show wpAny _ _ (Builtin.Tuple.tupleItemsOf (.ref t)>>=_) _ _ s
 refine qaW (tupleItemsOf_ ht ?_)
 refine qaW (wpAny_typeOf hTs ?_)
 rw [qa4 (by decide)]
 refine qaW (zcf hs pl pu ?_)
 have hno: ¬((((sIx items.size 0 lo:Nat):Int)==0 && (1:Int)==1 && (sIx items.size items.size hi - sIx items.size 0 lo)==items.size)=true):=by
  intro q
  rw [qaG,qaG] at q
  have q1:((sIx items.size 0 lo:Nat):Int)=0:=eq_of_beq q.1.1
  have q2:sIx items.size items.size hi - sIx items.size 0 lo=items.size:=eq_of_beq q.2
  exact hw ⟨by omega,by omega⟩
 show wpAny _ _ (if (((sIx items.size 0 lo:Nat):Int)==0 && (1:Int)==1 && (sIx items.size items.size hi - sIx items.size 0 lo)==items.size)=true then _ else _) _ _ s
 rw [qa5 hno,zlt]
 first
  | exact qaW (m:=Builtin.Tuple.tupleExact _) (qaC (qaX ⟨_,rfl,qaX h⟩) htake)
  | exact qaW (m:=Builtin.Tuple.tupleExact _) (qaC (qaW (qaX (qaX ⟨_,rfl,qaX h⟩))) htake)
  | exact qaW (qaW (m:=Builtin.Tuple.tupleExact _) (qaC (qaX (qaX ⟨_,rfl,qaX h⟩)) htake))
  | exact qaW (qaW (m:=Builtin.Tuple.tupleExact _) (qaC (qaX ⟨_,rfl,qaX h⟩) htake))
end
end HT
namespace L2
open PySem PySem.Spec PyProof.Rows
noncomputable abbrev TO:=St->Hp->(Option Int->Hp->Prop)->Prop
def PO (X:Cx) (e:Option Expr) (t:TO):Prop:=
 ∀ (pins:List (Addr×Obj)) (s:Shared) (σ:St) (H:Hp) (Q:Option Int->Hp->Prop),Inv X pins σ H s->t σ H Q->
  wpAny (model X.prog X.w) X.A (evalPart e X.env) (fun u s'=> ∃ o H',Inv X pins σ H' s'/\IsPart u o/\Q o H') X.xe s
noncomputable def zm6:TO:=fun _ H Q=>Q none H
noncomputable def zqD (t:TE):TO:=fun σ H Q=>t σ H fun x H1=> ∃ i,x= .int i/\Q (some i) H1
theorem zbd {ns:List Int}: ∀ {us:List Value},zaI (ns.map V.int) us->IntsAre us ns:=by
 induction ns with
 | nil=>intro us r;rw [List.map_nil] at r;cases r;exact .nil
 | cons n ns ih=>
  intro us r
  rw [qaM] at r
  cases r with
  | cons r1 r2=>
   obtain ⟨t,e⟩:=r1
   subst e
   exact .cons n t (ih r2)
section
variable {X:Cx} {e:Expr} {te:TE} {lo hi:Option Expr} {tl th:TO} {pos p2:Pos}
theorem zni:PO X none zm6:=by
 intro pins s σ H Q I h
 rw [evalPart_none]
 exact qaX ⟨none,H,I,.none,h⟩
theorem znP (h:PE X e te):PO X (some e) (zqD te):=by
 intro pins s σ H Q I hw
 rw [evalPart_some]
 refine thn (h pins s σ H _ I hw) fun u s1 ⟨x,H1,I1,r1,q1⟩=> ?_
 obtain ⟨i,rfl,q⟩:=q1
 obtain ⟨t,rfl⟩:=r1
 exact ⟨some i,H1,I1,.int i t,q⟩
def SlR (X:Cx) (r:V->Option Int->Option Int->Hp->VK->Prop):Prop:=
 ∀ (pins:List (Addr×Obj)) (s:Shared) (σ:St) (H:Hp) (x:V) (v vl vu:Value) (lo hi:Option Int) (sl:Addr) (Q:VK),Inv X pins σ H s->zbg x v->s.heap.IsSliceOf sl vl vu .none->IsPart vl lo->IsPart vu hi->r x lo hi H Q->
  ∃ T id,typeLookup (.type T) "__getitem__"=pure (some (.builtin id))/\s.TypeIs v T/\wpAny (model X.prog X.w) X.A (getItem v (.ref sl)) (EP X pins σ Q) X.xe s
theorem SlR.or {r r':V->Option Int->Option Int->Hp->VK->Prop} (h:SlR X r) (h':SlR X r'):SlR X (fun x lo hi H Q=>r x lo hi H Q\/r' x lo hi H Q):=by
 intro pins s σ H x v vl vu lo hi sl Q I rx hs pl pu q
 rcases q with q | q
 ·exact h pins s σ H x v vl vu lo hi sl Q I rx hs pl pu q
 ·exact h' pins s σ H x v vl vu lo hi sl Q I rx hs pl pu q
noncomputable def tSl (r:V->Option Int->Option Int->Hp->VK->Prop) (te:TE) (tl th:TO):TE:=fun σ H Q=>te σ H fun x H1=>tl σ H1 fun l H2=>th σ H2 fun u H3=>r x l u H3 Q
theorem zkW {r:V->Option Int->Option Int->Hp->VK->Prop} (hr:SlR X r) (he:PE X e te) (hl:PO X lo tl) (hu:PO X hi th):PE X (.Subscript e (.Slice lo hi none p2) pos) (tSl r te tl th):=by
 intro pins s σ H Q I h
 refine Subscript_ (thn (he pins s σ H _ I h) fun v s1 ⟨x,H1,I1,r1,q1⟩=> ?_)
 refine wpAny_Slice (thn (hl pins s1 σ H1 _ I1 q1) fun vl s2 ⟨l,H2,I2,pl,q2⟩=>thn (hu pins s2 σ H2 _ I2 q2) fun vu s3 ⟨u,H3,I3,pu,q3⟩=> ?_)
 rw [evalPart_none]
 refine qaX ?_
 have I4:Inv X pins σ H3 {s3 with heap:=s3.heap.push {cls:= .type "slice",data:= .fields #[vl,vu,.none]}}:=I3.kept (t':=s3.toks) fun b ob q=>qag _ q
 obtain ⟨T,id,hT,ht,hg⟩:=hr pins {s3 with heap:=s3.heap.push {cls:= .type "slice",data:= .fields #[vl,vu,.none]}} σ H3 x v vl vu l u s3.heap.objs.size Q I4 r1 (Heap.IsSliceOf.new ..) pl pu q3
 show wpAny (model X.prog X.w) X.A (subscriptTail e (.Slice lo hi none p2) v (.ref s3.heap.objs.size)) (EP X pins σ Q) X.xe {s3 with heap:=s3.heap.push {cls:= .type "slice",data:= .fields #[vl,vu,.none]}}
 exact tail_any (ops:=[.ref s3.heap.objs.size,v]) ht hT hg (by with_unfolding_all rfl)
noncomputable def zlS (xs:List V) (lo hi:Option Int):List V:=(xs.drop (HT.sIx xs.length 0 lo)).take (HT.sIx xs.length xs.length hi - HT.sIx xs.length 0 lo)
theorem zed (xs:List V) (lo hi:Option Int):(zlS xs lo hi).length<=xs.length:=by
 unfold zlS
 rw [List.length_take,List.length_drop]
 omega
noncomputable def zss (K:W.Frag):V->Option Int->Option Int->Hp->VK->Prop:=fun x lo hi H Q=> ∃ a xs,x= .ref a/\SqT K H a xs/\
 ¬ (HT.sIx xs.length 0 lo=0/\HT.sIx xs.length xs.length hi=xs.length)/\ ∀ p,H p=none->Q (.ref p) (upd H p (.tup (zlS xs lo hi)))
theorem zp1:SlR X (zss X.K):=by
 intro pins s σ H x v vl vu lo hi sl Q I rx hs pl pu h
 obtain ⟨a,xs,rfl,hx,hw,q⟩:=h
 cases rx
 obtain ⟨its,r,ht,hz⟩:=I.tuple hx
 have hlen:its.toArray.size=xs.length:=by rw [qaA];exact r.length.symm
 refine ⟨"tuple",_,PyProof.Rows.slot_tuple_getitem.lookup,ht.typeIs,?_⟩
 refine HT.zdl ht hs pl pu (by rw [hlen];exact hw) ?_ (by rw [hlen];exact hz)
 rw [hlen]
 refine ⟨.ref s.heap.objs.size,_,I.laid (t':=s.toks) (o:= .tup (zlS xs lo hi)) (fun b ob q=>qag _ q) (qaV _) ?_,rfl,q _ (I.hok.fresh (qaV _))⟩
 exact ⟨qaS (zed xs lo hi) hz,_,(r.drop (HT.sIx xs.length 0 lo)).take (HT.sIx xs.length xs.length hi - HT.sIx xs.length 0 lo),IsTup.new _ _⟩
noncomputable def zrC (K:W.Frag):R2:=fun x y H Q=> ∃ a b xs ys,x= .ref a/\y= .ref b/\SqT K H a xs/\SqT K H b ys/\xs≠[]/\xs.length+ys.length<=sizeLine/\
 (ys=[]->Q (.ref a) H)/\(ys≠[]-> ∀ p,H p=none->Q (.ref p) (upd H p (.tup (xs++ys))))
theorem zaI.nil_iff {xs:List V} {us:List Value} (r:zaI xs us):us=[]↔xs=[]:=by
 cases r with
 | nil=>simp
 | cons _ _=>simp
theorem zno:OpR X (binaryOp .Add) (zrC X.K):=by
 intro pins s σ H x y v u Q I rx ry h
 obtain ⟨a,b,xs,ys,rfl,rfl,ha,hb,hx,hz,q1,q2⟩:=h
 cases rx
 cases ry
 obtain ⟨its,r1,p1,_⟩:=I.tuple ha
 obtain ⟨its2,r2,p2,_⟩:=I.tuple hb
 refine HT.zn2 p1 p2 (fun z=>hx (r1.nil_iff.mp z)) (fun z=>⟨.ref a,H,I,rfl,q1 (r2.nil_iff.mp z)⟩) (fun z=> ?_) (by rw [<- r1.length, <-r2.length];exact hz)
 refine ⟨.ref s.heap.objs.size,_,I.laid (t':=s.toks) (o:= .tup (xs++ys)) (fun b ob q=>qag _ q) (qaV _) ?_,rfl,q2 (fun w=>z (r2.nil_iff.mpr w)) _ (I.hok.fresh (qaV _))⟩
 exact ⟨by rw [qav];exact hz,_,r1.append r2,IsTup.new _ _⟩
end
noncomputable def ixN (n:Nat) (i:Int):Option Nat:=if 0<=i then (if i<n then some i.toNat else none) else if -(n:Int)<=i then some (i+n).toNat else none
noncomputable def atI {α:Type} (xs:List α) (i:Int):Option α:=(ixN xs.length i).bind fun j=>xs[j]?
theorem zjy {n:Nat} {i:Int} {j:Nat} (h:ixN n i=some j):seqIndex? i n=some j/\j<n/\ -(n:Int)<=i/\i<n:=by
 unfold ixN at h
 by_cases h0:0<=i
 ·rw [qa4 h0] at h
  by_cases h1:i<n
  ·rw [qa4 h1] at h
   have e:i.toNat=j:=Option.some.inj h
   exact ⟨by rw [seqIndex_of h0 h1,e],by omega,by omega,h1⟩
  ·rw [qa5 h1] at h;cases h
 ·rw [qa5 h0] at h
  by_cases h1: -(n:Int)<=i
  ·rw [qa4 h1] at h
   have e:(i+n).toNat=j:=Option.some.inj h
   exact ⟨by rw [seqIndex_neg (by omega) h1,e],by omega,h1,by omega⟩
  ·rw [qa5 h1] at h;cases h
theorem zjg {α:Type} {xs:List α} {i:Int} {v:α} (h:atI xs i=some v): ∃ j,seqIndex? i xs.length=some j/\xs[j]? = some v/\j<xs.length/\ -(xs.length:Int)<=i/\i<xs.length:=by
 unfold atI at h
 cases e:ixN xs.length i with
 | none=>rw [e] at h;cases h
 | some j=>
  rw [e] at h
  obtain ⟨h1,h2,h3,h4⟩:=zjy e
  exact ⟨j,h1,h,h2,h3,h4⟩
theorem zdR {α:Type} {xs:List α} {j:Nat} {v:α} (h:xs[j]? = some v):atI xs (j:Int)=some v:=by
 have hj:j<xs.length:=(qac.mp h).1
 have e:ixN xs.length (j:Int)=some j:=by
  unfold ixN
  rw [qa4 (by omega),qa4 (by omega)];simp
 unfold atI;rw [e];exact h
def zgV (b:Expr):Prop:= ∀ o i,subscripted b false o i=operate [o,i] (getItem o i)
def IxR (X:Cx) (r:R2):Prop:=
 ∀ (value slice:Expr) (pins:List (Addr×Obj)) (s:Shared) (σ:St) (H:Hp) (x y:V) (v u:Value) (Q:VK),Inv X pins σ H s->zbg x v->zbg y u->r x y H Q->
  subscripted slice false v u=operate [v,u] (getItem v u)->wpAny (model X.prog X.w) X.A (subscriptTail value slice v u) (EP X pins σ Q) X.xe s
def MtR (X:Cx) (id:String) (r:V->List V->Hp->VK->Prop):Prop:=
 ∀ (pins:List (Addr×Obj)) (s:Shared) (σ:St) (H:Hp) (x:V) (xs:List V) (v:Value) (us:List Value) (Q:VK),Inv X pins σ H s->zbg x v->zaI xs us->r x xs H Q->
  wpAny (model X.prog X.w) X.A (call (.builtin id) (v::us)) (EP X pins σ Q) X.xe s
section
variable {X:Cx} {a b:Expr} {ta tb:TE} {pos:Pos}
theorem IxR.or {r r':R2} (h:IxR X r) (h':IxR X r'):IxR X (fun x y H Q=>r x y H Q\/r' x y H Q):=by
 intro value slice pins s σ H x y v u Q I rx ry q hs
 rcases q with q | q
 ·exact h value slice pins s σ H x y v u Q I rx ry q hs
 ·exact h' value slice pins s σ H x y v u Q I rx ry q hs
theorem MtR.or {id:String} {r r':V->List V->Hp->VK->Prop} (h:MtR X id r) (h':MtR X id r'):MtR X id (fun x xs H Q=>r x xs H Q\/r' x xs H Q):=by
 intro pins s σ H x xs v us Q I rx rs q
 rcases q with q | q
 ·exact h pins s σ H x xs v us Q I rx rs q
 ·exact h' pins s σ H x xs v us Q I rx rs q
theorem zrG {r:R2} (hr:IxR X r) (ha:PE X a ta) (hb:PE X b tb) (hs:zgV b):PE X (.Subscript a b pos) (tOp r ta tb):=by
 intro pins s σ H Q I h
 exact Subscript_ (zri ha hb I h fun v u s2 x y H2 I2 rx ry q=>hr a b pins s2 σ H2 x y v u Q I2 rx ry q (hs _ _))
noncomputable def zsv (K:W.Frag):R2:=fun x y H Q=> ∃ p xs i v,x= .ref p/\y= .int i/\SqL K H p xs/\atI xs i=some v/\Q v H
noncomputable def zsm (K:W.Frag):R2:=fun x y H Q=> ∃ p xs i v,x= .ref p/\y= .int i/\SqT K H p xs/\atI xs i=some v/\Q v H
theorem znX:IxR X (zsv X.K):=by
 intro value slice pins s σ H x y v u Q I rx ry h hs
 obtain ⟨p,xs,i,z,rfl,rfl,hq,he,q⟩:=h
 cases rx
 obtain ⟨t,rfl⟩:=ry
 obtain ⟨its,r,pl,hz⟩:=I.list hq
 obtain ⟨j,h1,h2,h3,h4,h5⟩:=zjg he
 obtain ⟨w,ew,rw'⟩:=r.get h2
 have hl:=r.length
 have hn:=zhD
 have fin:EP X pins σ Q w s:=⟨z,H,I,rw',q⟩
 by_cases h0:0<=i
 ·have hj:i.toNat=j:=by
   rw [seqIndex_of h0 h5] at h1
   exact Option.some.inj h1
  exact item_listR pl.isList h0 (by omega) (by rw [hj];simpa using ew) fin hs
 ·have hj:(i+(its.toArray.size:Int)).toNat=j:=by
   rw [seqIndex_neg (by omega) h4] at h1
   rw [qaA, <-hl]
   exact Option.some.inj h1
  exact subscriptTail_builtinR (x:=w) pl.isList.typeIs slot_list_getitem.lookup
   (wpAny_getItem_list_neg (Q:=fun r s'=>r=w/\EP X pins σ Q r s') pl.isList (by omega) (by rw [qaA]<;>omega) (by omega) (by rw [hj];simpa using ew) ⟨rfl,fin⟩) hs
theorem zpO:IxR X (zsm X.K):=by
 intro value slice pins s σ H x y v u Q I rx ry h hs
 obtain ⟨p,xs,i,z,rfl,rfl,hq,he,q⟩:=h
 cases rx
 obtain ⟨t,rfl⟩:=ry
 obtain ⟨its,r,pl,hz⟩:=I.tuple hq
 obtain ⟨j,h1,h2,h3,h4,h5⟩:=zjg he
 obtain ⟨w,ew,rw'⟩:=r.get h2
 have hl:=r.length
 have hn:=zhD
 have fin:EP X pins σ Q w s:=⟨z,H,I,rw',q⟩
 exact subscriptTail_builtinR (x:=w) pl.typeIs slot_tuple_getitem.lookup
  (getItem_tuple (j:=j) (Q:=fun r s'=>r=w/\EP X pins σ Q r s') pl (by omega) (by omega) (by rw [qaA, <-hl];exact h1) (by simpa using ew) ⟨rfl,fin⟩) hs
theorem zh9 (its:List Value) (n j:Nat) (u:Value):Obj.mapSeq (·.setIfInBounds j u) {cls:= .type "list",data:= .seq its.toArray n}={cls:= .type "list",data:= .seq (its.set j u).toArray n}:=by
 simp [Obj.mapSeq]
theorem Inv.lst {pins:List (Addr×Obj)} {σ:St} {H:Hp} {s:Shared} {p:Addr} {xs:List V} (I:Inv X pins σ H s) (h:H p=some (.lst xs)):
  ∃ (its:List Value) (n:Nat),zaI xs its/\s.heap.get? p=some {cls:= .type "list",data:= .seq its.toArray n}/\xs.length<=sizeLine:=by
 obtain ⟨z,its,n,r,e⟩:=I.hok p _ h
 exact ⟨its,n,r,e,z⟩
theorem Inv.lstUpd {pins:List (Addr×Obj)} {σ:St} {H:Hp} {s:Shared} {p:Addr} {xs ys:List V} {its its':List Value} {n n':Nat} {f:Obj->Obj} (I:Inv X pins σ H s) (h:H p=some (.lst xs))
  (ho:s.heap.get? p=some {cls:= .type "list",data:= .seq its.toArray n}) (hf:f {cls:= .type "list",data:= .seq its.toArray n}={cls:= .type "list",data:= .seq its'.toArray n'}) (r:zaI ys its') (hz:ys.length<=sizeLine) (t:Nat):
  Inv X pins σ (upd H p (.lst ys)) {s with heap:=s.heap.update p f,toks:=t}:=by
 have e:(s.heap.update p f).get? p=some {cls:= .type "list",data:= .seq its'.toArray n'}:=by
  rw [qal f ho (by rw [hf]<;>rfl),hf]
 refine I.write (x:=p) (e:=p) (by rw [h];trivial) (.inl rfl) (fun b u hb q=>(qah _ _ (Ne.symm hb)).trans q) ⟨_,e⟩ ?_
 exact ⟨hz,its',n',r,e⟩
noncomputable def zq9:V->V->V->Hp->(Hp->Prop)->Prop:=fun o i v H Q=> ∃ p xs k j,o= .ref p/\i= .int k/\H p=some (.lst xs)/\ixN xs.length k=some j/\Q (upd H p (.lst (xs.set j v)))
theorem zkV:zoi X zq9:=by
 intro pins s σ H o i v ov iv u Q I ro ri rv h
 obtain ⟨p,xs,k,j,rfl,rfl,hp,hj,q⟩:=h
 cases ro
 obtain ⟨t,rfl⟩:=ri
 obtain ⟨its,n,r,ho,hz⟩:=I.lst hp
 obtain ⟨h1,h2,h3,h4⟩:=zjy hj
 have hl:=r.length
 have hn:=zhD
 have I':Inv X pins σ (upd H p (.lst (xs.set j v))) {s with heap:=s.heap.update p (Obj.mapSeq (·.setIfInBounds j u))}:=
  I.lstUpd hp ho (zh9 its n j u) (r.set rv j) (by rw [qaI];exact hz) s.toks
 by_cases h0:0<=k
 ·have hk:k.toNat=j:=by
   rw [seqIndex_of h0 h4] at h1
   exact Option.some.inj h1
  exact W.ki_setAt ho h0 (by omega) (by rw [qaA, <-hl];exact h4) (by rw [hk];exact ⟨_,I',q⟩)
 ·have hk:(k+(its.toArray.size:Int)).toNat=j:=by
   rw [seqIndex_neg (by omega) h3] at h1
   rw [qaA, <-hl]
   exact Option.some.inj h1
  exact W.ki_setBack ho (by omega) (by rw [qaA, <-hl];exact h3) (by omega) (by rw [hk];exact ⟨_,I',q⟩)
theorem zfW (lo hi:Option Int) (n:Nat):(sliceBounds lo hi none n).1=((HT.sIx n 0 lo:Nat):Int)/\(sliceBounds lo hi none n).2.1=((HT.sIx n n hi:Nat):Int)/\(sliceBounds lo hi none n).2.2=1:=by
 refine ⟨?_,?_,rfl⟩
 ·cases lo with
  | none=>simp [sliceBounds,HT.sIx]
  | some i=>
   simp only [sliceBounds,HT.sIx,Option.getD_none,show (1:Int)>0 by decide,if_true]
   by_cases h:i<0
   ·simp only [h,if_true]<;>omega
   ·simp only [h,if_false]<;>omega
 ·cases hi with
  | none=>simp [sliceBounds,HT.sIx]
  | some i=>
   simp only [sliceBounds,HT.sIx,Option.getD_none,show (1:Int)>0 by decide,if_true]
   by_cases h:i<0
   ·simp only [h,if_true]<;>omega
   ·simp only [h,if_false]<;>omega
theorem ze3 (its:List Value) (lo hi:Option Int):slicePick its.toArray lo hi none=((its.drop (HT.sIx its.length 0 lo)).take (HT.sIx its.length its.length hi - HT.sIx its.length 0 lo)).toArray:=by
 obtain ⟨h1,h2,h3⟩:=zfW lo hi its.toArray.size
 unfold slicePick
 rw [h1,h2,h3]
 simp only [sliceRange_one,pick_run,qaA]<;>rfl
noncomputable def zsr (K:W.Frag):V->Option Int->Option Int->Hp->VK->Prop:=fun x lo hi H Q=> ∃ a xs,x= .ref a/\SqL K H a xs/\ ∀ p,H p=none->Q (.ref p) (upd H p (.lst (zlS xs lo hi)))
theorem zn4:SlR X (zsr X.K):=by
 intro pins s σ H x v vl vu lo hi sl Q I rx hs pl pu h
 obtain ⟨a,xs,rfl,hx,q⟩:=h
 cases rx
 obtain ⟨its,r,ht,hz⟩:=I.list hx
 have hlen:=r.length
 refine ⟨"list",_,slot_list_getitem.lookup,ht.isList.typeIs,?_⟩
 refine wpAny_getItem_list_slice ht.isList hs pl pu .none (by simp) ?_ (by rw [qaA]<;>omega)
 rw [ze3, <-hlen]
 refine ⟨.ref s.heap.objs.size,_,I.laid (t':=s.toks) (o:= .lst (zlS xs lo hi)) (fun b ob q=>qag _ q) (qaV _) ?_,rfl,q _ (I.hok.fresh (qaV _))⟩
 exact ⟨qaS (zed xs lo hi) hz,_,0,(r.drop (HT.sIx xs.length 0 lo)).take (HT.sIx xs.length xs.length hi - HT.sIx xs.length 0 lo),qar _ rfl⟩
theorem zf5:zax X (.builtin "len") (fun xs H Q=> ∃ p ys,xs=[.ref p]/\(SqL X.K H p ys\/SqT X.K H p ys)/\Q (.int ys.length) H):=by
 intro pins s σ H xs us Q I r h
 obtain ⟨p,ys,rfl,hq,q⟩:=h
 obtain ⟨u,rfl,rx⟩:=zcS r
 cases rx
 have hn:=zhD
 rcases hq with hq | hq
 ·obtain ⟨its,r',pl,hz⟩:=I.list hq
  have hlen:=r'.length
  exact Calls.call_len_list pl.isList (by simp only [qaA]<;>omega) ⟨.int ys.length,H,I.tok _,⟨s.toks+1,by rw [qaA,hlen]⟩,q⟩
 ·obtain ⟨its,r',pl,hz⟩:=I.tuple hq
  have hlen:=r'.length
  exact len_tuple pl (by simp only [qaA]<;>omega) ⟨.int ys.length,H,I.tok _,⟨s.toks+1,by rw [qaA,hlen]⟩,q⟩
theorem zax.or {f:Value} {r r':List V->Hp->VK->Prop} (h:zax X f r) (h':zax X f r'):zax X f (fun xs H Q=>r xs H Q\/r' xs H Q):=by
 intro pins s σ H xs us Q I rs q
 rcases q with q | q
 ·exact h pins s σ H xs us Q I rs q
 ·exact h' pins s σ H xs us Q I rs q
theorem zeQ:zax X (.type "tuple") (fun xs H Q=> ∃ p ys,xs=[.ref p]/\((SqL X.K H p ys/\ ∀ l,H l=none->Q (.ref l) (upd H l (.tup ys)))\/(SqT X.K H p ys/\Q (.ref p) H))):=by
 intro pins s σ H xs us Q I r h
 obtain ⟨p,ys,rfl,h⟩:=h
 obtain ⟨u,rfl,rx⟩:=zcS r
 cases rx
 rcases h with ⟨hq,q⟩ | ⟨hq,q⟩
 ·obtain ⟨its,r',pl,hz⟩:=I.list hq
  have hlen:=r'.length
  refine call_tuple_list pl.isList (fun h' kp=> ?_) (by simp only [qaA]<;>omega)
  have I1:Inv X pins σ H {s with heap:=h'}:=I.kept (t':=s.toks) kp
  have I2:Inv X pins σ (upd H h'.objs.size (.tup ys)) {s with heap:=h'.push {cls:= .type "tuple",data:= .seq its.toArray}}:=
   I1.laid (t':=s.toks) (fun b o e=>qag _ e) (qaV _) (show zbp X.prog X.w _ _ _ (.tup ys) from ⟨hz,its,r',IsTup.new _ _⟩)
  exact ⟨.ref h'.objs.size,_,I2,rfl,q _ (I1.hok.fresh (qaV _))⟩
 ·obtain ⟨its,r',pl,hz⟩:=I.tuple hq
  exact call_tuple_same pl ⟨.ref p,H,I,rfl,q⟩
def tyV (K:W.Frag) (T:String) (x:V) (H:Hp):Prop:=match x with
 | .str _=>T="str"
 | .int _=>T="int"
 | .ref p=>(T="list"/\ ∃ xs,SqL K H p xs)\/(T="tuple"/\ ∃ o,K.lookup p=some o/\o.cls= .type "tuple"/\o.dict=none)\/
   (T="dict"/\((∃ kvs,H p=some (.dK kvs))\/ ∃ kvs,H p=some (.dT kvs)))\/(T="set"/\ ∃ S n,H p=some (.set S n))
 | _=>False
theorem zqa {pins:List (Addr×Obj)} {σ:St} {H:Hp} {s:Shared} {T:String} {x:V} {v:Value} (I:Inv X pins σ H s) (r:zbg x v) (ty:tyV X.K T x H):
  s.TypeIs v T/\ ∀ a,v= .ref a-> ∃ ob,s.heap.get? a=some ob/\ob.dict=none:=by
 cases x with
 | str z=>
  obtain ⟨t,rfl⟩:=r
  cases (show T="str" from ty)
  exact ⟨typeIs_str s z t,fun _ e=>nomatch e⟩
 | int i=>
  obtain ⟨t,rfl⟩:=r
  cases (show T="int" from ty)
  exact ⟨typeIs_int s i t,fun _ e=>nomatch e⟩
 | ref p=>
  cases r
  rcases ty with ⟨rfl,xs,hq⟩ | ⟨rfl,o,hk,hc,hd⟩ | ⟨rfl,hk⟩ | ⟨rfl,S,n,hk⟩
  ·obtain ⟨its,_,pl,_⟩:=I.list hq
   refine ⟨pl.isList.typeIs,fun a e=> ?_⟩
   cases e
   obtain ⟨o,n,e,c,hd,_⟩:=pl
   exact ⟨o,e,hd⟩
  ·refine ⟨⟨o,I.kIn p o hk,hc⟩,fun a e=> ?_⟩
   cases e
   exact ⟨o,I.kIn _ o hk,hd⟩
  ·have z: ∃ o,s.heap.get? p=some o/\o.ExactDict:=by
    rcases hk with ⟨kvs,hk⟩ | ⟨kvs,hk⟩
    ·obtain ⟨_,_,_,_,o,_,_,e,ex,_⟩:=I.hok p _ hk
     exact ⟨o,e,ex⟩
    ·obtain ⟨_,_,_,_,o,_,_,e,ex,_⟩:=I.hok p _ hk
     exact ⟨o,e,ex⟩
   obtain ⟨o,e,ex⟩:=z
   refine ⟨⟨o,e,ex.1⟩,fun a e2=> ?_⟩
   cases e2
   exact ⟨o,e,ex.2.1⟩
  ·obtain ⟨o,_,_,_,e,ex,_⟩:=I.hok p _ hk
   refine ⟨⟨o,e,ex.1⟩,fun a e2=> ?_⟩
   cases e2
   exact ⟨o,e,ex.2.1⟩
 | _=>exact qa0 ty
noncomputable def tBM (K:W.Frag) (T:String) (r:V->List V->Hp->VK->Prop) (to:TE) (t:TA):TE:=fun σ H Q=>to σ H fun x H1=>tyV K T x H1/\t σ H1 fun xs H2=>r x xs H2 Q
variable {o e:Expr} {es:List Expr} {to:TE} {t:TA} {name:Str} {apos cpos:Pos} {T id:String} {r:V->List V->Hp->VK->Prop}
theorem zmS (pa:PlainAttrs T) (slot:Slot T name id) (hty:typeOf (.builtin id)=pure (.type "method_descriptor")) (hm:MtR X id r) (ho:PE X o to) (ha:PA X (e::es) t)
  (hbase:attributeBase o name X.env (eval o X.env)=eval o X.env:=by rfl)
  (hfew:((backTo cpos (starEach (e::es) X.env)).all (fun x=> !x.1) && (backToKw cpos (keywordEach [] X.env)).all (fun x=>x.1.isSome)
    && decide ((e::es).length+([]:List Keyword).length+(if ([]:List Keyword).isEmpty then 0 else 1)<30))=true:=by rfl)
  (hline:(apos.endLine==cpos.line)=true:=by rfl) (hs:starEach (e::es) X.env=(false,eval e X.env)::starEach es X.env:=by rfl) (hplain:(backTo cpos (starEach es X.env)).any (·.1)=false:=by rfl):
  PE X (.Call (.Attribute o name apos) (e::es) [] cpos) (tBM X.K T r to t):=by
 intro pins s σ H Q I h
 refine wpAny_Call_method_late hbase hfew hline rfl (thn (ho pins s σ H _ I h) fun v s1 ⟨x,H1,I1,r1,ty,q1⟩=> ?_)
 obtain ⟨h1,h2⟩:=zqa I1 r1 ty
 refine ⟨T,id,pa,slot,hty,h1,h2,?_⟩
 have hA:=ha cpos pins s1 σ H1 _ I1 q1
 rw [hs] at hA ⊢
 refine Calls.callWith_builtin (by show (false || (backTo cpos (starEach es X.env)).any (·.1))=false;rw [hplain]<;>rfl) (Calls.evalArgs_plain ?_)
 exact thn hA fun us s2 ⟨vs,H2,I2,r2,q2⟩=>hm pins s2 σ H2 x vs v us Q I2 r1 r2 q2
end
def MtM (X:Cx) (id:String) (r:V->List V->Hp->VK->Prop):Prop:=
 ∀ (pins:List (Addr×Obj)) (s:Shared) (σ:St) (H:Hp) (x:V) (xs:List V) (v:Value) (us:List Value) (Q:VK),Inv X pins σ H s->zbg x v->zaI xs us->r x xs H Q->
  wpAny (model X.prog X.w) X.A (call (.builtin id) (v::us)) (EP X pins σ Q) X.xe s
theorem zaI.one: ∀ {x:V} {us:List Value},zaI [x] us-> ∃ u,us=[u]/\zbg x u
 | _,_,.cons r .nil=>⟨_,rfl,r⟩
theorem zaI.zero: ∀ {us:List Value},zaI [] us->us=[]
 | _,.nil=>rfl
theorem zaI.eraseIdx: ∀ {xs:List V} {us:List Value} (i:Nat),zaI xs us->zaI (xs.eraseIdx i) (us.eraseIdx i)
 | _,_,_,.nil=> .nil
 | _,_,0,.cons _ t=>t
 | _,_,i+1,.cons r t=> .cons r (zaI.eraseIdx i t)
theorem zaI.reverse {xs:List V} {us:List Value} (h:zaI xs us):zaI xs.reverse us.reverse:=by
 induction h with
 | nil=>exact .nil
 | cons r t ih=>rw [List.reverse_cons,List.reverse_cons];exact zaI.append ih (.cons r .nil)
theorem zaI.rep {xs:List V} {us:List Value} (h:zaI xs us): ∀ k:Nat,zaI (List.replicate k xs).flatten (List.replicate k us).flatten
 | 0=> .nil
 | k+1=>by
  rw [List.replicate_succ,List.replicate_succ,List.flatten_cons,List.flatten_cons]
  exact zaI.append h (zaI.rep h k)
theorem zfT (its:List Value): ∀ (k:Nat) (acc:List Value),
  List.foldl (fun x1 x2=>x1++x2) acc.toArray (List.replicate k its.toArray)=(acc++(List.replicate k its).flatten).toArray
 | 0,acc=>by simp
 | k+1,acc=>by
  have e:acc.toArray++its.toArray=(acc++its).toArray:=by simp
  have e2:(acc++its)++(List.replicate k its).flatten=acc++(List.replicate (k+1) its).flatten:=by
   rw [List.replicate_succ,List.flatten_cons,List.append_assoc]
  rw [<- e2, <-zfT its k (acc++its), <-e,List.replicate_succ,List.foldl_cons]
section
variable {X:Cx} {pins:List (Addr×Obj)} {σ:St} {H:Hp} {s:Shared} {l b:Addr} {xs ys zs:List V}
theorem Inv.lset {its its':List Value} {n:Nat} {f:Array Value->Array Value} {t':Nat} (I:Inv X pins σ H s) (hH:H l=some (.lst xs))
  (e:s.heap.get? l=some {cls:= .type "list",data:= .seq its.toArray n}) (hf:f its.toArray=its'.toArray) (hv:zaI ys its') (hz:ys.length<=sizeLine):
  Inv X pins σ (upd H l (.lst ys)) {s with heap:=s.heap.update l (Obj.mapSeq f),toks:=t'}:=by
 have q:=PySem.IsL.update e f
 rw [hf] at q
 refine I.write (x:=l) (e:=l) (by rw [hH];exact trivial) (.inl rfl) (fun b' u hb hu=>(qah s.heap (Obj.mapSeq f) (Ne.symm hb)).trans hu) ⟨_,q⟩ ?_
 exact ⟨hz,its',_,hv,q⟩
theorem Inv.lnew {its:List Value} {t':Nat} (I:Inv X pins σ H s) (hv:zaI ys its) (hz:ys.length<=sizeLine):
  Inv X pins σ (upd H s.heap.objs.size (.lst ys)) {s with heap:=s.heap.push {cls:= .type "list",data:= .seq its.toArray},toks:=t'}:=
 I.laid (fun _ _ q=>qag _ q) (qaV _) ⟨hz,its,0,hv,qar _ rfl⟩
theorem Inv.fresh (I:Inv X pins σ H s):H s.heap.objs.size=none:=I.hok.fresh (qaV _)
theorem Inv.lstM (I:Inv X pins σ H s) (hH:H l=some (.lst xs)):xs.length<=sizeLine/\ ∃ (its:List Value) (n:Nat),zaI xs its/\xs.length=its.length/\s.heap.get? l=some {cls:= .type "list",data:= .seq its.toArray n}:=by
 obtain ⟨z,its,n,r,e⟩:=I.hok l _ hH
 exact ⟨z,its,n,r,r.length,e⟩
theorem zkB {n:Nat} (h:n<=sizeLine):Builtin.List.listTooLong n=false:=by
 unfold Builtin.List.listTooLong
 exact decide_eq_false (by omega)
end
section
variable {X:Cx}
noncomputable def zmT:V->List V->Hp->VK->Prop:=fun x vs H Q=> ∃ l xs y,x= .ref l/\vs=[y]/\H l=some (.lst xs)/\xs.length<sizeLine/\Q .non (upd H l (.lst (xs++[y])))
theorem zfQ:MtM X "list.append" zmT:=by
 intro pins s σ H x vs v us Q I rx rv h
 obtain ⟨l,xs,y,rfl,rfl,hH,hz,q⟩:=h
 cases rx
 obtain ⟨u,rfl,ru⟩:=rv.one
 obtain ⟨z,its,n,r,hl,e⟩:=I.lstM hH
 refine call_meets F.slot_list_append ⟨_,e,rfl⟩ F.entry_list_append (F.args_list_append_2 _ _) (PySem.list_append l its.toArray n u (by rw [qaA];omega)) ⟨e,?_⟩
 refine ⟨.non,_,I.lset (its':=its++[u]) hH e (by simp) (r.append (.cons ru .nil)) ?_,rfl,q⟩
 rw [qav,List.length_singleton]
 omega
noncomputable def zsD:R2:=fun x y H Q=> ∃ l b xs zs,x= .ref l/\y= .ref b/\H l=some (.lst xs)/\H b=some (.lst zs)/\xs.length+zs.length<=sizeLine/\ ∀ p,H p=none->Q (.ref p) (upd H p (.lst (xs++zs)))
theorem zpS:OpR X (binaryOp .Add) zsD:=by
 intro pins s σ H x y v u Q I rx ry h
 obtain ⟨l,b,xs,zs,rfl,rfl,hH,hB,hz,q⟩:=h
 cases rx
 cases ry
 obtain ⟨z,its,n,r,hl,e⟩:=I.lstM hH
 obtain ⟨z2,its2,n2,r2,hl2,e2⟩:=I.lstM hB
 refine PySem.P.add_list e e2 ?_ (by rw [qaA,qaA];omega)
 have ea:its.toArray++its2.toArray=(its++its2).toArray:=by simp
 rw [ea]
 exact ⟨.ref _,_,I.lnew (t':=s.toks) (r.append r2) (by rw [qav];omega),rfl,q _ I.fresh⟩
theorem zm1 {α:Type} (xs:List α) (k:Nat):(List.replicate k xs).flatten.length=k*xs.length:=by
 induction k with
 | zero=>simp
 | succ k ih=>rw [List.replicate_succ,List.flatten_cons,qav,ih,Nat.succ_mul,Nat.add_comm]
end
section
variable {prog:Program} {w:World} {A:Around} {E:Value->Shared->Prop} {s:Shared}
end
section
variable {X:Cx}
end
end L2
namespace Att
open PySem PySem.W PySem.Calls PyProof.Rows
theorem zej {P:Params} {h:Heap}: ∀ (ns:List Int) (vs:List Value),WellAll P h vs (ns.map WData.int)->IntsAre vs ns:=by
 intro ns
 induction ns with
 | nil=>
  intro vs w
  rw [List.map_nil] at w
  cases w
  exact .nil
 | cons n ns ih=>
  intro vs w
  rw [qaM] at w
  cases w with
  | cons a b=>
   cases a
   exact .cons _ _ (ih _ b)
theorem zjz {l:OpenLaw} {n:Nat} (hn:l.most=some n) {P:Params} {h:Heap} {args:List WData} {vals:List Value}
  (hpre:l.row.toRowW.claim.pre args=true) (hwl:WellAll P h vals args):
  ∃ a vs ns,vals=[Value.ref a]/\args=[WData.list (ns.map WData.int)]/\h.get? a=some {cls:= .type "list",data:= .seq vs.toArray}/\IntsAre vs ns/\ns.length<=n:=by
 have hsh:WShape.hasAll [] args [.list .int]=true:=(pre_splitW hpre).1
 have hc:l.pre.holds [] {args:=args}=true:=(pre_splitW hpre).2
 obtain ⟨d,r,rfl,h1,h2⟩:=hasAllW_cons hsh
 obtain rfl:=hasAllW_nil h2
 obtain ⟨xs,rfl,h3⟩:=hasW_list h1
 obtain ⟨ns,rfl⟩:=items_int h3
 have hlen:ns.length<=n:=by
  unfold OpenLaw.pre at hc
  have h4:(WTm.not (.lt (.lit (.int (n:Int))) (.len (.arg 0)))).holds [] {args:=[.list (ns.map .int)]}=true:=by
   have h4:=(holds_andW hc).1
   rw [hn] at h4
   exact h4
  have h5:=condW_of h4 (w_not (w_lt w_lit (w_len_list (w_arg rfl))))
  rw [qaH] at h5
  refine Nat.le_of_not_lt fun q=> ?_
  have q':(n:Int)<((ns.length:Nat):Int):=by omega
  first
   | (rw [decide_eq_true q'] at h5;exact absurd h5 (by decide))
   | (simp at h5;omega)
 cases hwl with
 | cons w1 w2=>
  cases w2
  cases w1 with
  | list ho hall=>exact ⟨_,_,ns,rfl,rfl,ho,zej ns _ hall,hlen⟩
theorem zjZ (l:OpenLaw) (args:List WData):l.row.toRowW.claim.post args (.bool true) args=true:=
 postW_of (r:=l.row.toRowW) (X:=(true==true))
  (show WShape.has [] (.bool true) .bool=true by first | rfl | decide | simp [WShape.has,WShape.arms,WShape.armsAll])
  (show (WTm.eq .res (.lit (.bool true))).value [] {args:=args,res:=some (.bool true),after:=args}=some (.bool (true==true)) from w_eq_bool (w_res rfl) w_lit) rfl
theorem zgu {l:OpenLaw} {n:Nat} {q:Program} {loose:List Str} {XP:(Str->Option Value)->Heap->Prop} {YP:World->Heap->Prop} {d:DefRec}
  (hn:l.most=some n) (hdf:d.params.defaults=[])
  (call: ∀ (w:World) (s₀ s₁:Shared) (mg mb:Str->Option Value) (fa:Addr) (o:Obj) (pm cd doc:Value) (a:Addr) (vs:List Value) (ns:List Int),
    Ground q loose [] XP w s₀ mg mb s₁.heap->YP w s₁.heap->
    s₁.heap.get? fa=some o->o.data= .func (docDef d.name d.params d.body d.scope pm cd doc)->s₁.heap.CodeRec cd d.name->mg d.name=some (.ref fa)->
    s₁.heap.get? a=some {cls:= .type "list",data:= .seq vs.toArray}->IntsAre vs ns->ns.length<=n->s₁.gens= #[]->
    codeAny (model l.prog w) callerA (.call (.ref fa) ⟨[.ref a],[]⟩) (fun r s'=>r= .ok (.ret (.bool true))/\OldK s₁.heap s'.heap/\s'.os=s₁.os/\AllBare s'.gens) s₁):
  WalkO q loose XP YP l.row.toRowW d [] (fun f vs=>PySem.call f vs):=by
 intro w s₀ s₁ mg mb G Y fa o pm cd doc dV kV ho hd hcd hD hmg hg args vals as hpre hlay hrd hwl hlo
 obtain rfl:dV= .none:=Dflts.none hD hdf
 obtain rfl:kV= .none:=Dflts.noKw hD
 obtain ⟨a,vs,ns,rfl,rfl,hobj,hints,hlen⟩:=zjz hn hpre hwl
 refine enter_call (codeAny_mono (call w s₀ s₁ mg mb fa o pm cd doc a vs ns G Y ho (fd_plain hd) hcd hmg hobj hints hlen hg) fun r s' hq=> ?_)
 obtain ⟨rfl,h2,h3,h4⟩:=hq
 exact ⟨.inl ⟨.bool true,.bool true,[],rfl,fun _=>rfl,.bool true,zjZ l _,fun _=>⟨List.Pairwise.nil,fun _ hm=>(nomatch hm)⟩⟩,h2,h3,h4⟩
section
variable {prog:Program} {w:World} {A:Around} {E:Value->Shared->Prop} {s:Shared} {K:Frag}
end
end Att
namespace L2
open PySem PySem.Spec PyProof.Rows
theorem zdX: ∀ {vs:List Value} {ns:List Int},IntsAre vs ns->zaI (ns.map V.int) vs
 | _,_,.nil=> .nil
 | _,_,.cons n t h=> .cons ⟨t,rfl⟩ (zdX h)
def zqY (H:Hp):Prop:= ∀ b,H b=none\/ ∃ o xs,H b=some (.frz o (.lst xs))
theorem zkG {P:Program} {w:World} {K:W.Frag} {mg mb:Str->Option Value} {CX:CXT} {k:Nat} {fa a:Addr} {fd:FuncData} {x:Str} {sp:Sp} {s₁:Shared} {vs:List Value} {ns:List Int}
  (KX:K.In s₁.heap) (hns:s₁.heap.Ns mainGlobals mg) (hb:s₁.heap.Ns builtinsNs mb) (hbb: ∀ x:Str,x≠"__name__"->mb x=bootBuiltins x) (hlim:s₁.heap.NoLimit) (hg:s₁.gens= #[])
  (ha:s₁.heap.get? a=some {cls:= .type "list",data:= .seq vs.toArray}) (hi:IntsAre vs ns) (hl:ns.length<=sizeLine) (hr:zcD k callerA)
  (F: ∀ base:Heap,K.In base->base.Ns mainGlobals mg->zbZ P w K mg base CX k fa fd [x] sp) (hbind: ∀ (s:Shared) (u:Value),BindsTo s fd ⟨[u],[]⟩ [(x,u)])
  (hsp: ∀ H:Hp,zqY H->SqL K H a (ns.map V.int)->sp [.ref a] H (fun v _=>v= .bl true) fun _ _ _=>False)
  (hCX: ∀ H e s',CX [] H s₁ (fun _ _ _=>False) e s'->False):
  codeAny (model P w) callerA (.call (.ref fa) ⟨[.ref a],[]⟩) (fun r s'=>r= .ok (.ret (.bool true))/\OldK s₁.heap s'.heap/\s'.os=s₁.os/\AllBare s'.gens) s₁:=by
 have rv:=zdX hi
 have lenV:=hi.length
 have core: ∀ H:Hp,zqY H->SqL K H a (ns.map V.int)->HOk P w H s₁.heap->(∀ b,H b≠none->b=a)->(H a≠none->K.lookup a=none)->
   codeAny (model P w) callerA (.call (.ref fa) ⟨[.ref a],[]⟩) (fun r s'=>r= .ok (.ret (.bool true))/\OldK s₁.heap s'.heap/\s'.os=s₁.os/\AllBare s'.gens) s₁:=by
  intro H hO hS hok hA hK
  have base_of: ∀ {b:Addr} {o:Obj},s₁.heap.get? b=some o->H b=none->(zkt s₁.heap H).get? b=some o:=fun e n=>zki e n
  have noA: ∀ {b:Addr} {o:Obj} {es:Array DictEntry} {ep:Nat},s₁.heap.get? b=some o->o.data= .dict es ep->H b=none:=fun {b o es ep} e d=>by
   cases q:H b with
   | none=>rfl
   | some u=>
    have e':b=a:=hA b (by rw [q];simp)
    subst e'
    rw [ha] at e;cases e
    have d':Data.seq vs.toArray _=Data.dict es ep:=d
    cases d'
  have nsK: ∀ {b:Addr} {m:Str->Option Value},s₁.heap.Ns b m->(zkt s₁.heap H).Ns b m:=fun {b m} ⟨o,es,ep,e,d,r⟩=>⟨o,es,ep,base_of e (noA e d),d,r⟩
  have hKb:K.In (zkt s₁.heap H):=fun b o e=>base_of (KX b o e) (by
    cases q:H b with
    | none=>rfl
    | some u=>
      have e':b=a:=hA b (by rw [q];simp)
      subst e'
      rw [hK (by rw [q];simp)] at e;cases e)
  have hM:Mod K mg (zkt s₁.heap H):=⟨hKb,nsK hns,⟨mb,nsK hb,hbb⟩,let ⟨mc,h1,h2⟩:=hlim;⟨mc,nsK h1,h2⟩⟩
  have e0:zkz P w K mg (zkt s₁.heap H) callerA [] s₁ H:=⟨rfl,hM,fun b o e=>zmE e,Nat.le_of_eq (zjV _ _),trivial,fun b hb=>absurd (show b∈([]:List Addr) from hb) (by simp),hok,.of_eq hg,.inl rfl⟩
  refine codeAny_mono ((F _ hKb (nsK hns)).run callerA [] s₁ H ⟨[.ref a],[]⟩ [.ref a] [.ref a] _ _ hr e0 (hbind s₁ (.ref a)) (.cons rfl .nil) (hsp H hO hS)) fun r s' h=> ?_
  cases r with
  | error e=>exact (hCX H e s' h).elim
  | ok fl=>
   cases fl with
   | next=>exact qa0 h
   | brk=>exact qa0 h
   | cont=>exact qa0 h
   | ret u=>
    obtain ⟨v,H',os,bare,un,hok',r',q⟩:=h
    have q':v= .bl true:=q
    subst q'
    obtain rfl:u=Value.bool true:=r'
    refine ⟨rfl,OldK.of_keep fun b o e=> ?_,os,bare⟩
    cases q:H b with
    | none=>exact un.keep b o e q (by intro z;exact absurd (show b∈([]:List Addr) from z) (by simp)) (by simp)
    | some u=>
     rcases hO b with z | ⟨ob,xs,z⟩
     ·rw [q] at z;cases z
     ·have z2:=un.frzs b ob _ z
      obtain ⟨e1,_⟩:=hok b _ z
      obtain ⟨e2,_⟩:=hok' b _ z2
      rw [e] at e1;cases e1
      exact e2
 cases hk:K.lookup a with
 | some o=>
  have e:=KX a o hk
  rw [ha] at e
  cases e
  refine core (fun _=>none) (fun _=> .inl rfl) (.inr ⟨_,vs.toArray,_,hk,rfl,rfl,rfl,by rw [qaA,lenV];exact hl,by simpa using rv⟩) (fun b u z=>by have z':(none:Option HO)=some u:=z;cases z') (fun b z=>absurd rfl z) fun z=>absurd rfl z
 | none=>
  refine core (fun b=>if b=a then some (.frz {cls:= .type "list",data:= .seq vs.toArray} (.lst (ns.map V.int))) else none) (fun b=> ?_) (.inl (.inr ⟨{cls:= .type "list",data:= .seq vs.toArray},qa4 rfl⟩)) (fun b u z=> ?_) (fun b z=> ?_) fun _=>hk
  ·by_cases hb:b=a
   ·exact .inr ⟨_,_,qa4 hb⟩
   ·exact .inl (qa5 hb)
  ·by_cases hb:b=a
   ·have z':=(qa4 hb).symm.trans z
    cases z'
    subst hb
    exact ⟨ha,by rw [qaH];exact hl,vs,_,rv,ha⟩
   ·have z':=(qa5 hb).symm.trans z
    cases z'
  ·by_cases hb:b=a
   ·exact hb
   ·exact absurd (qa5 hb) z
theorem zmO {l:W.OpenLaw} {n k:Nat} {q:Program} {loose:List Str} {XP:(Str->Option Value)->Heap->Prop} {YP:World->Heap->Prop} {d:DefRec} {K:Params->W.Frag} {CX:World->CXT} {sp:World->Sp} {x:Str}
  (hn:l.most=some n) (hn2:n<=sizeLine) (hdf:d.params.defaults=[]) (hr:zcD k callerA)
  (hY: ∀ (w:World) (h:Heap),YP w h->(K w.params).In h)
  (F: ∀ (w:World) (mg:Str->Option Value) (fa:Addr) (h:Heap),(K w.params).In h->h.Ns mainGlobals mg->mg d.name=some (.ref fa)->
    ∃ fd:FuncData,(∀ (s:Shared) (u:Value),BindsTo s fd ⟨[u],[]⟩ [(x,u)])/\
      ∀ base:Heap,(K w.params).In base->base.Ns mainGlobals mg->zbZ l.prog w (K w.params) mg base (CX w) k fa fd [x] (sp w))
  (hsp: ∀ (w:World) (H:Hp) (a:Addr) (ns:List Int),ns.length<=n->zqY H->SqL (K w.params) H a (ns.map V.int)->sp w [.ref a] H (fun v _=>v= .bl true) fun _ _ _=>False)
  (hCX: ∀ (w:World) (H:Hp) (s:Shared) (e:Value) (s':Shared),CX w [] H s (fun _ _ _=>False) e s'->False):
  W.WalkO q loose XP YP l.row.toRowW d [] (fun f vs=>PySem.call f vs):=by
 refine Att.zgu hn hdf fun w s₀ s₁ mg mb fa o pm cd doc a vs ns G Y ho hd hcd hmg hobj hints hlen hg=> ?_
 have KX:=hY w _ Y
 obtain ⟨fd,hb,hF⟩:=F w mg fa _ KX G.T.g hmg
 exact zkG KX G.T.g G.T.b G.T.builtins G.T.nolimit hg hobj hints (qaS hlen hn2) hr hF hb (fun H hO hS=>hsp w H a ns hlen hO hS) fun H e s'=>hCX w H s₁ e s'
noncomputable def zdf (s:Stmt):Arguments:=match s with
 | .FunctionDef _ a _ _ _ _ _ _ _ _=>a
 | _=>{posonlyargs:=[],args:=[],vararg:=none,kwonlyargs:=[],kw_defaults:=[],kwarg:=none,defaults:=[]}
noncomputable def zbW (s:Stmt):List Stmt:=match s with
 | .FunctionDef _ _ b _ _ _ _ _ _ _=>b
 | _=>[]
noncomputable def zaf (s:Stmt):Scope:=match s with
 | .FunctionDef _ _ _ _ _ _ sc _ _ _=>sc
 | _=>{kind:= .function,names:=[],isGenerator:=false,isCoroutine:=false}
noncomputable abbrev CX0:CXT:=fun _ _ _ _ _ _=>False
noncomputable abbrev E0:XK:=fun _ _ _=>False
theorem zpr {X:Cx}:zcW CX0 X E0:=fun _ _ _ _ _ _ _ h=>h.elim
structure Fun (K:W.Frag) (x qual:Str) (st:Stmt) (f:Addr) (fd:FuncData):Prop where
 ex: ∃ (oc:Value) (od:Option Addr) (kV doc pm:Value) (an:Option Addr) (cdv ct:Value) (osl:Array (Option Value)),
  fd=W.fnOf x qual (zdf st) (zbW st) (zaf st) .none kV doc pm an cdv ct/\K.lookup f=some ⟨oc,od,.func fd,osl⟩/\W.codeIn K cdv qual=true
 kp:W.keepIn K (.ref f)=true
section
variable {P:Program} {w:World} {K:W.Frag} {mg:Str->Option Value} {base:Heap}
theorem Fun.ok {x qual:Str} {st:Stmt} {f:Addr} {fd:FuncData} {N ps:List Str} {k:Nat} {sp:Sp} (F:Fun K x qual st f fd) (S:zar N ps (zaf st)) (len: ∀ vs H Q E,sp vs H Q E->vs.length=ps.length)
  (hbody: ∀ (cdv:Value) (A:Around) (outer:List Env) (s:Shared) (H:Hp) (vs:List V) (Q:VK) (E:XK),zcD k (A.deeper (envOfC qual (zaf st) s.heap.objs.size f cdv))->sp vs H Q E->
    ∃ t,PSs (zgj CX0 P w K mg base N qual (zaf st) f cdv A outer s H E).nox (zbW st) t/\t {nx:=fun _ H'=>Q .non H',rt:=Q} (zdo N vs) H):zbZ P w K mg base CX0 (k+1) f fd ps sp:=by
 obtain ⟨oc,od,kV,doc,pm,an,cdv,ct,osl,rfl,lk,hcd⟩:=F.ex
 refine zpq lk hcd S len fun A outer s H vs Q E hr hsp=> ?_
 obtain ⟨t,h,q⟩:=hbody cdv A outer s H vs Q E hr hsp
 exact ⟨t,h.nox,q⟩
theorem Fun.binds {x qual:Str} {st:Stmt} {f:Addr} {fd:FuncData} {ps:List Str} (F:Fun K x qual st f fd)
  (h: ∀ (kV doc pm:Value) (an:Option Addr) (cdv ct:Value) (us:List Value),us.length=ps.length->bindArgs (W.fnOf x qual (zdf st) (zbW st) (zaf st) .none kV doc pm an cdv ct) ⟨us,[]⟩=pure (ps.zip us)):zaQ K fd ps []:=by
 obtain ⟨oc,od,kV,doc,pm,an,cdv,ct,osl,rfl,lk,hcd⟩:=F.ex
 exact .all (h kV doc pm an cdv ct)
theorem za6 {x qual:Str} {st:Stmt} {f:Addr} {oc:Value} {od an:Option Addr} {osl:Array (Option Value)} {kV doc pm cdv ct:Value} (l:K.lookup f=some ⟨oc,od,.func (W.fnOf x qual (zdf st) (zbW st) (zaf st) .none kV doc pm an cdv ct),osl⟩)
  (c:W.codeIn K cdv qual=true) (k:W.keepIn K (.ref f)=true):Fun K x qual st f (W.fnOf x qual (zdf st) (zbW st) (zaf st) .none kV doc pm an cdv ct):=⟨⟨oc,od,kV,doc,pm,an,cdv,ct,osl,rfl,l,c⟩,k⟩
end
section
variable {X:Cx}
theorem pv (i:Nat) {x:Str} {pos:Pos} (hN:X.N[i]? = some x:=by rfl) (hv:Vis X.env.scope x:=by first | exact Or.inl rfl | exact Or.inr (Or.inl rfl) | exact Or.inr (Or.inr rfl)) (hd:(x==("__debug__":Str))=false:=by decide)
  (hcd:(x==("__classdict__":Str))=false:=by decide):PE X (.Name x pos) (zrU i):=zmm hN hv hd hcd
end
theorem zms {A B:Prop} (h:B):if false=true then A else B:=by
 rw [qa5 Bool.false_ne_true]
 exact h
theorem zmq {A B:Prop} (h:A):if true=true then A else B:=by
 rw [qa4 rfl]
 exact h
def zka (H H':Hp):Prop:= ∀ b o,H b=some o->H' b=some o
theorem zka.refl (H:Hp):zka H H:=fun _ _ h=>h
theorem zka.trans {H H1 H2:Hp} (a:zka H H1) (b:zka H1 H2):zka H H2:=fun c o h=>b c o (a c o h)
theorem zka.free {H H':Hp} (e:zka H H') {l:Addr} (h:H' l=Option.none):H l=Option.none:=by
 cases q:H l with
 | none=>rfl
 | some o=>
  rw [e l o q] at h
  cases h
theorem zka.seq {K:W.Frag} {H H':Hp} {a:Addr} {xs:List V} (e:zka H H') (h:SqL K H a xs):SqL K H' a xs:=by
 rcases h with (h | ⟨o,h⟩) | h
 ·exact .inl (.inl (e _ _ h))
 ·exact .inl (.inr ⟨o,e _ _ h⟩)
 ·exact .inr h
noncomputable def za0 (cells:List (Str×Addr)):List (Str×NameKind)->List (Str×Addr)->List (Str×Addr)
 | [],acc=>acc
 | (n,k)::r,acc=>if k== .free then za0 cells r ((n,(cells.lookup n).getD 0)::acc) else za0 cells r acc
theorem zcT {scope:Scope} {env:Env} (h: ∀ x∈scope.names,x.2= .free-> ∃ c,env.cells.lookup x.1=some c):closureFor scope env=pure (za0 env.cells scope.names []):=by
 simp only [closureFor]
 generalize hn:scope.names=names at h
 clear hn
 generalize hacc:([]:List (Str×Addr))=acc
 clear hacc
 have key: ∀ (names:List (Str×NameKind)) (acc:List (Str×Addr)),(∀ x∈names,x.2= .free-> ∃ c,env.cells.lookup x.1=some c)->
   (forIn (m:=Sem) names acc fun (x:Str×NameKind) (r:List (Str×Addr))=>(match x with
     | (name,kind)=>if (kind==NameKind.free)=true then do
         let a<-cellOf env name
         pure (ForInStep.yield ((name,a)::r))
       else pure (ForInStep.yield r)))=pure (za0 env.cells names acc):=by
  intro names
  induction names with
  | nil=>intro acc _;rfl
  | cons x r ih=>
   intro acc h
   obtain ⟨n,k⟩:=x
   rw [List.forIn_cons]
   unfold za0
   by_cases hk:(k==NameKind.free)=true
   ·simp only [hk,if_true]
    obtain ⟨c,hc⟩:=h (n,k) qau (by simpa using hk)
    have e:cellOf env n=pure c:=by unfold cellOf;rw [show env.cells.lookup n=some c from hc]
    rw [e,show (env.cells.lookup n).getD 0=c by rw [show env.cells.lookup n=some c from hc];rfl]
    exact ih _ fun y hy=>h y (qan _ hy)
   ·simp only [hk,if_false]
    exact ih _ fun y hy=>h y (qan _ hy)
 have k:=key names acc h
 refine Eq.trans (congrArg (fun (z:Sem (List (Str×Addr)))=>z>>=fun r=>pure r) k) ?_
 rfl
theorem zdq {cells:List (Str×Addr)}: ∀ {names:List (Str×NameKind)} {acc:List (Str×Addr)} {n:Str} {c:Addr},(n,c)∈za0 cells names acc->
  (n,c)∈acc\/((n,NameKind.free)∈names/\c=(cells.lookup n).getD 0)
 | [],_,_,_,h=> .inl h
 | (y,k)::r,acc,n,c,h=>by
  unfold za0 at h
  by_cases hk:(k==NameKind.free)=true
  ·rw [qa4 hk] at h
   have ek:k= .free:=by simpa using hk
   subst ek
   rcases zdq h with h | ⟨h1,h2⟩
   ·rcases qaP.mp h with e | h
    ·cases e
     exact .inr ⟨qau,rfl⟩
    ·exact .inl h
   ·exact .inr ⟨qan _ h1,h2⟩
  ·rw [qa5 hk] at h
   rcases zdq h with h | ⟨h1,h2⟩
   ·exact .inl h
   ·exact .inr ⟨qan _ h1,h2⟩
theorem zcK {cells:List (Str×Addr)} {x:Str} {c:Addr} (hc:cells.lookup x=some c): ∀ (names:List (Str×NameKind)) (acc:List (Str×Addr)),((x,NameKind.free)∈names\/acc.lookup x=some c)->(za0 cells names acc).lookup x=some c
 | [],acc,h=>h.elim (fun z=>nomatch z) id
 | (y,k)::r,acc,h=>by
  unfold za0
  by_cases hk:(k==NameKind.free)=true
  ·rw [qa4 hk]
   refine zcK hc r _ ?_
   by_cases hy:x=y
   ·subst hy
    exact .inr (by rw [List.lookup_cons,beq_self_eq_true,hc];rfl)
   ·rcases h with h | h
    ·rcases qaP.mp h with e | h
     ·cases e;exact absurd rfl hy
     ·exact .inl h
    ·refine .inr ?_
     rw [List.lookup_cons,show (x==y)=false by simpa using hy]
     exact h
  ·rw [qa5 hk]
   refine zcK hc r _ ?_
   rcases h with h | h
   ·rcases qaP.mp h with e | h
    ·cases e;exact absurd rfl hk
    ·exact .inl h
   ·exact .inr h
theorem zb8: ∀ {names:List (Str×NameKind)} {n:Nat} {acc:List (Str×Addr)} {x:Str} {c:Addr},(x,c)∈cellsFrom n names acc->(x,c)∈acc\/(n<=c/\(x,NameKind.cell)∈names)
 | [],_,_,_,_,h=> .inl h
 | (y,k)::r,n,acc,x,c,h=>by
  unfold cellsFrom at h
  by_cases hk:(k==NameKind.cell)=true
  ·rw [qa4 hk] at h
   have ek:k= .cell:=by simpa using hk
   subst ek
   rcases zb8 h with h | ⟨h,h'⟩
   ·rcases qaP.mp h with e | h
    ·cases e;exact .inr ⟨qaV _,qau⟩
    ·exact .inl h
   ·exact .inr ⟨Nat.le_of_succ_le h,qan _ h'⟩
  ·rw [qa5 hk] at h
   rcases zb8 h with h | ⟨h,h'⟩
   ·exact .inl h
   ·exact .inr ⟨h,qan _ h'⟩
theorem zbF {x:Str} {c:Addr}: ∀ (names:List (Str×NameKind)) (n:Nat) (acc:List (Str×Addr)),(x,NameKind.cell)∉names->acc.lookup x=some c->(cellsFrom n names acc).lookup x=some c
 | [],_,_,_,h=>h
 | (y,k)::r,n,acc,hn,h=>by
  unfold cellsFrom
  by_cases hk:(k==NameKind.cell)=true
  ·rw [qa4 hk]
   have ek:k= .cell:=by simpa using hk
   subst ek
   refine zbF r _ _ (fun z=>hn (qan _ z)) ?_
   have hy:x≠y:=fun e=>hn (by rw [e];exact qau)
   rw [List.lookup_cons,show (x==y)=false by simpa using hy]
   exact h
  ·rw [qa5 hk]
   exact zbF r _ _ (fun z=>hn (qan _ z)) h
theorem zbG: ∀ (names:List (Str×NameKind)) (n:Nat) (acc:List (Str×Addr)),(∀ x c,(x,c)∈acc->c<n)->(acc.Pairwise fun x y=>x.2≠y.2)->(cellsFrom n names acc).Pairwise fun x y=>x.2≠y.2
 | [],_,_,_,h=>h
 | (y,k)::r,n,acc,hlt,h=>by
  unfold cellsFrom
  by_cases hk:(k==NameKind.cell)=true
  ·rw [qa4 hk]
   refine zbG r (n+1) _ (fun x c hm=> ?_) (qay.mpr ⟨fun z hz e=> ?_,h⟩)
   ·rcases qaP.mp hm with e | hm
    ·cases e;exact Nat.lt_succ_self _
    ·exact Nat.lt_succ_of_lt (hlt x c hm)
   ·have:=hlt z.1 z.2 hz
    have e':n=z.2:=e
    exact qaN _ (e'▸this)
  ·rw [qa5 hk]
   exact zbG r n acc hlt h
noncomputable def znk (env:Env) (scope:Scope) (C:Addr):Env:=
 {scope:=relabel scope env,locals:=C,globals:=env.globals,cells:=cellsFrom (C+1) scope.names (za0 env.cells scope.names []),qual:=env.qual,func:=none,code:=env.code,frame:=env.frame,builtins:=env.builtins}
section
variable {M:Model} {A:Around} {E:Value->Shared->Prop} {s:Shared}
theorem zev {scope:Scope} {env:Env} {cl:List (Str×Addr)} {Q:Env->Shared->Prop}
  (hQ: ∀ h',(∀ b o,s.heap.get? b=some o->h'.get? b=some o)->h'.Ns s.heap.objs.size (fun _=>none)->(∀ x c,(x,NameKind.cell)∈scope.names->(x,c)∈cellsFrom (s.heap.objs.size+1) scope.names cl->(x,c)∉cl->h'.IsCell c none)->
    Q {scope,locals:=s.heap.objs.size,globals:=env.globals,cells:=cellsFrom (s.heap.objs.size+1) scope.names cl,qual:=env.qual,func:=none,code:=env.code,frame:=env.frame,builtins:=env.builtins} {s with heap:=h'}):
  wpAny M A (newFunctionEnv scope env.globals cl [] env.qual none .none (some env)) Q E s:=by
 simp only [newFunctionEnv,Option.isSome_some,if_true]
 refine qaW (wpAny_alloc ?_)
 refine qaW (wpAny_layCells _ (fun name kind cells=>by cases hkc:kind==NameKind.cell<;>simp [hkc]) _ _ _ _ ?_)
 simp only [List.forIn_nil]
 refine qaW (qaX (qaX ?_))
 rw [show ({s with heap:=s.heap.push {cls:= .type "dict",data:= .dict #[]}}:Shared).heap.objs.size=s.heap.objs.size+1 from qaL ..]
 have key: ∀ (names:List (Str×NameKind)) (h:Heap) (acc:List (Str×Addr)) (x:Str) (c:Addr),(x,c)∈cellsFrom h.objs.size names acc->(x,c)∉acc->(pushCells h names).IsCell c none:=by
  intro names
  induction names with
  | nil=>intro h acc x c hm hn;exact absurd hm hn
  | cons y r ih=>
   intro h acc x c hm hn
   obtain ⟨n,k⟩:=y
   unfold cellsFrom at hm
   unfold pushCells
   by_cases hk:(k==NameKind.cell)=true
   ·rw [qa4 hk] at hm ⊢
    by_cases hin:(x,c)∈((n,h.objs.size)::acc)
    ·rcases qaP.mp hin with e | e
     ·cases e
      exact ⟨_,pushCells_keeps _ _ _ _ (qar _ rfl),rfl⟩
     ·exact absurd e hn
    ·refine ih (h.push {cls:= .type "cell",data:= .cell none}) ((n,h.objs.size)::acc) x c ?_ hin
     rw [qaL]
     exact hm
   ·rw [qa5 hk] at hm ⊢
    exact ih h acc x c hm hn
 refine hQ _ (fun b o e=>pushCells_keeps _ _ b o (qag _ e)) ((Heap.Ns.new s.heap (.type "dict")).keeps (pushCells_keeps _ _)) fun x c _ hm hn=> ?_
 refine key scope.names _ cl x c ?_ hn
 rw [qaL]
 exact hm
end
section
variable {prog:Program} {w:World} {A:Around} {E:Value->Shared->Prop} {R:Result->Shared->Prop} {s:Shared}
theorem zgf {elt target iter:Expr} {ifs:List Expr} {scope:Scope} {pos:Pos} {it acc:Value} {env:Env} (I:Nat->Shared->Prop)
  (turn: ∀ n s,I n s->wpAny (model prog w) A (pyNext it) (fun r s₁=>match r with
    | none=>R (.ok .next) s₁
    | some v=>wpAny (model prog w) A (letOwnedTupleGo target it v) (fun _ s₁'=>wpAny (model prog w) A (assign target env v) (fun _ s₂=>
        wpAny (model prog w) A (forIn ifs true fun c r=>if r=true then do let ok<-isTrue c env (eval c env);pure (ForInStep.yield ok) else pure (ForInStep.yield r)) (fun ok s₃=>
          if ok=true then wpAny (model prog w) A (eval elt env) (fun x s₄=>
            wpAny (model prog w) A (call (.builtin "list.append") [acc,x]) (fun _ s₅=> ∃ m,m<n/\I m s₅) (fun _ _=>False) s₄) (fun _ _=>False) s₃
          else ∃ m,m<n/\I m s₃) (fun _ _=>False) s₂) (fun _ _=>False) s₁') (fun _ _=>False) s₁) (fun _ _=>False) s)
  (n:Nat) (h:I n s):
  codeAny (model prog w) A (.compLoop (.ListComp elt [⟨target,iter,ifs,0⟩] scope pos) 0 it acc env) R s:=by
 refine codeAny_loop rfl I (fun n s hI=> ?_) n h
 show wpAny _ A ((compTurn (.ListComp elt [⟨target,iter,ifs,0⟩] scope pos) 0 it acc env).onRaise (fun x=>do noteFrame x env;theTreesLotGoes x)) _ _ s
 refine wpAny_noted ?_
 rw [compTurn_list]
 refine qaW (wpAny_standAt (qaW (qaZ (turn n s hI) (fun r s₁ h₁=> ?_) fun _ _ h'=>h'.elim)))
 cases r with
 | none=>exact qaX h₁
 | some v=>
  refine qaW (qaZ h₁ (fun _ s₁' h₁'=> ?_) fun _ _ h'=>h'.elim)
  refine qaW (qaZ h₁' (fun _ s₂ h₂=>qaW (qaZ h₂ (fun ok s₃ h₃=> ?_) fun _ _ h'=>h'.elim)) fun _ _ h'=>h'.elim)
  cases ok with
  | false=>exact qaX ⟨rfl,h₃⟩
  | true=>
   exact qaW (qaW (qaZ h₃ (fun x s₄ h₄=>qaW (qaZ h₄ (fun _ s₅ h₅=>qaX (qaX ⟨rfl,h₅⟩)) fun _ _ h'=>h'.elim)) fun _ _ h'=>h'.elim))
end
noncomputable abbrev cxB (X:Cx) (scope:Scope) (N:List Str) (s:Shared) (H:Hp) (fp:List Addr):Cx:=
 {prog:=X.prog,w:=X.w,K:=X.K,mg:=X.mg,base:=X.base,A:=X.A,N:=N,s₀:=s,H₀:=H,env:=znk X.env scope s.heap.objs.size,outer:=X.stack,stack:=X.stack,ex:=fp,
   fn:=fun x=>scope.names.lookup x==some .cell,calm:=X.calm,pn:=[],xe:=fun _ _=>False}
noncomputable def zl1 (Xn:List (Str×NameKind)) (XN:List Str) (names:List (Str×NameKind)) (N:List Str) (src:List (Option Nat)):Bool:=
 decide N.Nodup && decide (names.map (·.1)).Nodup && (src.length==N.length) &&
 names.all (fun x=>x.2 != .local || names.lookup x.1==some .local) &&
 names.all (fun x=>x.2 != .cell || names.lookup x.1==some .cell) &&
 names.all (fun x=>x.2 != .free || Xn.lookup x.1==some .cell || Xn.lookup x.1==some .free) &&
 (N.zip src).all (fun p=>match p.2 with
   | none=>true
   | some i=>XN[i]? == some p.1 && names.lookup p.1==some .free)
structure BOk (X:Cx) (scope:Scope) (N:List Str) (src:List (Option Nat)):Prop where
 kind:scope.kind= .function
 nd:N.Nodup
 keys:(scope.names.map (·.1)).Nodup
 len:src.length=N.length
 locs: ∀ x∈scope.names,x.2= .local->scope.names.lookup x.1=some .local
 cels: ∀ x∈scope.names,x.2= .cell->scope.names.lookup x.1=some .cell
 free: ∀ x∈scope.names,x.2= .free->X.env.kindOf x.1=some .cell\/X.env.kindOf x.1=some .free
 src: ∀ (k i:Nat) (x:Str),src[k]? = some (some i)->N[k]? = some x->X.N[i]? = some x/\scope.names.lookup x=some .free
theorem BOk.of {X:Cx} {scope:Scope} {N:List Str} {src:List (Option Nat)} {Xn:List (Str×NameKind)} {XN:List Str} (hk:scope.kind= .function) (hX:X.env.scope.names=Xn) (hN:X.N=XN)
  (h:zl1 Xn XN scope.names N src=true):BOk X scope N src:=by
 unfold zl1 at h
 simp only [qaG,qaD,List.all_eq_true,beq_iff_eq] at h
 obtain ⟨⟨⟨⟨⟨⟨h1,h2⟩,h3⟩,h4⟩,h4'⟩,h5⟩,h6⟩:=h
 refine ⟨hk,h1,h2,h3,fun x hx e=> ?_,fun x hx e=> ?_,fun x hx e=> ?_,fun k i x e1 e2=> ?_⟩
 ·have:=h4 x hx
  rw [e] at this
  simpa using this
 ·have:=h4' x hx
  rw [e] at this
  simpa using this
 ·have:=h5 x hx
  rw [e] at this
  unfold Env.kindOf
  rw [hX]
  simpa using this
 ·have hm:(x,some i)∈N.zip src:=by
   refine List.mem_iff_getElem?.mpr ⟨k,?_⟩
   rw [List.getElem?_zip_eq_some]
   exact ⟨e2,e1⟩
  have:=h6 _ hm
  dsimp only at this
  simp only [qaG,beq_iff_eq] at this
  rw [hN]
  exact this
noncomputable def bStart (src:List (Option Nat)) (σ:St):St:=src.map fun o=>o.bind fun i=>(σ[i]?).join
theorem zer {scope:Scope} {env:Env} {x:Str}:(relabel scope env).names.lookup x=(scope.names.lookup x).map fun k=>if (k== .free && env.scope.kind== .function && env.kindOf x==some .cell) then .cell else k:=by
 show List.lookup x (scope.names.map _)=_
 induction scope.names with
 | nil=>rfl
 | cons y r ih=>
  obtain ⟨n,k⟩:=y
  rw [qaM]
  dsimp only
  by_cases hx:x=n
  ·subst hx
   by_cases hc:(k==NameKind.free && env.scope.kind== .function && env.kindOf x==some .cell)=true
   ·rw [qa4 hc,List.lookup_cons,List.lookup_cons,beq_self_eq_true]
    dsimp only [Option.map]
    rw [qa4 hc]
   ·rw [qa5 hc,List.lookup_cons,List.lookup_cons,beq_self_eq_true]
    dsimp only [Option.map]
    rw [qa5 hc]
  ·have hb:(x==n)=false:=by simpa using hx
   by_cases hc:(k==NameKind.free && env.scope.kind== .function && env.kindOf n==some .cell)=true
   ·rw [qa4 hc,List.lookup_cons,List.lookup_cons,hb]
    exact ih
   ·rw [qa5 hc,List.lookup_cons,List.lookup_cons,hb]
    exact ih
section
variable {X:Cx} {pins:List (Addr×Obj)} {σ:St} {H:Hp} {s:Shared} {scope:Scope} {N:List Str} {src:List (Option Nat)} {fp:List Addr}
theorem znC (I:Inv X pins σ H s) (B:BOk X scope N src) {x:Str} {c:Addr} (h:(x,c)∈za0 X.env.cells scope.names []):X.env.cells.lookup x=some c/\(x,NameKind.free)∈scope.names:=by
 rcases zdq h with z | ⟨z,e⟩
 ·exact nomatch z
 ·obtain ⟨c',hc⟩:=I.ok.has x (B.free _ z rfl)
  rw [hc] at e
  exact ⟨by rw [hc,e];rfl,z⟩
theorem zfZ {l:List (Str×NameKind)} (h:(l.map (·.1)).Nodup) {x:Str} {j k:NameKind} (a:(x,j)∈l) (b:(x,k)∈l):j=k:=by
 induction l with
 | nil=>exact nomatch a
 | cons y r ih=>
  obtain ⟨h1,h2⟩:=List.nodup_cons.mp (show (y.1::r.map (·.1)).Nodup from h)
  rcases qaP.mp a with e | a<;>rcases qaP.mp b with e' | b
  ·rw [<- e] at e';cases e';rfl
  ·exact absurd (qaU.mpr ⟨_,b,by rw [<- e]⟩) h1
  ·exact absurd (qaU.mpr ⟨_,a,by rw [<- e']⟩) h1
  ·exact ih h2 a b
theorem zdr (I:Inv X pins σ H s): ∀ (names:List (Str×NameKind)) (acc:List (Str×Addr)),(∀ x∈names,x.2= .free-> ∃ c,X.env.cells.lookup x.1=some c)->(names.map (·.1)).Nodup->(∀ x c,(x,c)∈acc->X.env.cells.lookup x=some c/\x∉names.map (·.1))->
  (acc.Pairwise fun x y=>x.2≠y.2)->(za0 X.env.cells names acc).Pairwise fun x y=>x.2≠y.2
 | [],_,_,_,_,h=>h
 | (n,k)::r,acc,hf,nd,ha,h=>by
  unfold za0
  obtain ⟨h1,h2⟩:=List.nodup_cons.mp (show (n::r.map (·.1)).Nodup from nd)
  by_cases hk:(k==NameKind.free)=true
  ·rw [qa4 hk]
   obtain ⟨c,hc⟩:=hf (n,k) qau (by simpa using hk)
   have hc:X.env.cells.lookup n=some c:=hc
   rw [show (X.env.cells.lookup n).getD 0=c by rw [hc];rfl]
   refine zdr I r _ (fun x hx=>hf x (qan _ hx)) h2 (fun x c' hm=> ?_) (qay.mpr ⟨fun y hy e=> ?_,h⟩)
   ·rcases qaP.mp hm with e | hm
    ·cases e;exact ⟨hc,h1⟩
    ·exact ⟨(ha x c' hm).1,fun z=>(ha x c' hm).2 (qan _ z)⟩
   ·obtain ⟨q1,q2⟩:=ha y.1 y.2 hy
    have e':c=y.2:=e
    rw [<- e'] at q1
    have:=I.ok.inj _ _ _ hc q1
    exact q2 (by rw [<- this];exact qau)
  ·rw [qa5 hk]
   exact zdr I r acc (fun x hx=>hf x (qan _ hx)) h2 (fun x c' hm=>⟨(ha x c' hm).1,fun z=>(ha x c' hm).2 (qan _ z)⟩) h
theorem ziy (I:Inv X pins σ H s) (B:BOk X scope N src) (hf: ∀ b∈fp,zkg X pins H b) (hfo: ∀ b∈fp, ∃ o,s.heap.get? b=some o) {h':Heap} (hk: ∀ b o,s.heap.get? b=some o->h'.get? b=some o) (hns:h'.Ns s.heap.objs.size (fun _=>none))
  (hce: ∀ x c,(x,NameKind.cell)∈scope.names->(x,c)∈cellsFrom (s.heap.objs.size+1) scope.names (za0 X.env.cells scope.names [])->(x,c)∉za0 X.env.cells scope.names []->h'.IsCell c none):
  Inv (cxB X scope N s H fp) [] (bStart src σ) H {s with heap:=h'}:=by
 have cin: ∀ {x:Str} {c:Addr},(x,c)∈za0 X.env.cells scope.names []->X.env.cells.lookup x=some c/\(x,NameKind.free)∈scope.names:=fun h=>znC I B h
 have old: ∀ {x:Str} {c:Addr},X.env.cells.lookup x=some c->c<s.heap.objs.size:=fun {x c} h=>(let ⟨_,q⟩:=I.cell x c h;q.lt)
 have all: ∀ {x:Str} {c:Addr},(x,c)∈cellsFrom (s.heap.objs.size+1) scope.names (za0 X.env.cells scope.names [])->(X.env.cells.lookup x=some c/\(x,NameKind.free)∈scope.names)\/(s.heap.objs.size<c/\(x,NameKind.cell)∈scope.names):=fun {x c} h=>by
  rcases zb8 h with z | ⟨z,z'⟩
  ·exact .inl (cin z)
  ·exact .inr ⟨z,z'⟩
 have lk: ∀ {x:Str} {c:Addr},(znk X.env scope s.heap.objs.size).cells.lookup x=some c->(x,c)∈cellsFrom (s.heap.objs.size+1) scope.names (za0 X.env.cells scope.names []):=fun h=>PySem.mem_of_lookup h
 have hasF: ∀ x∈scope.names,x.2= .free-> ∃ c,X.env.cells.lookup x.1=some c:=fun x hx e=>I.ok.has x.1 (B.free x hx e)
 have ap:(cellsFrom (s.heap.objs.size+1) scope.names (za0 X.env.cells scope.names [])).Pairwise fun x y=>x.2≠y.2:=
  zbG _ _ _ (fun x c hm=>Nat.lt_succ_of_lt (old (cin hm).1)) (zdr I scope.names [] hasF B.keys (fun _ _ z=>nomatch z) .nil)
 have outer: ∀ {x:Str} {c:Addr},(x,NameKind.free)∈scope.names->X.env.cells.lookup x=some c->(znk X.env scope s.heap.objs.size).cells.lookup x=some c:=fun {x c} h1 h2=>
  zbF _ _ _ (fun z=>nomatch zfZ B.keys h1 z) (zcK h2 scope.names [] (.inl h1))
 have kinds: ∀ x,(znk X.env scope s.heap.objs.size).kindOf x=(scope.names.lookup x).map fun k=>if (k== .free && X.env.scope.kind== .function && X.env.kindOf x==some .cell) then .cell else k:=fun x=>zer
 have ckind: ∀ x,((znk X.env scope s.heap.objs.size).kindOf x=some .cell\/(znk X.env scope s.heap.objs.size).kindOf x=some .free)->scope.names.lookup x=some .cell\/scope.names.lookup x=some .free:=fun x h=>by
  rw [kinds x] at h
  cases e:scope.names.lookup x with
  | none=>rw [e] at h;simp at h
  | some k=>
   rw [e] at h
   cases k<;>simp at h ⊢
 refine ⟨⟨I.ok.mod,B.kind,I.ok.glob,I.ok.blt,qaV _,fun x y c h1 h2=>name_of_addr ap (lk h1) (lk h2),fun x hx=> ?_,fun x c hfn hx=> ?_,I.ok.hd,I.handA,I.ok.frames,.inl rfl,fun b hb=> ?_,I.bs,qaS I.ok.bsz I.sz,fun b o e hb=> ?_,fun b hb hb'=> ?_,I.stack,I.stkFree⟩,
   rfl,I.bare,Un.kept hk,⟨_,hns,fun i x v h1 h2 h3=> ?_⟩,fun x c h=> ?_,I.hok.fresh (qaV _),fun x c h=> ?_,fun p hp=>absurd (show p∈([]:List (Addr×Obj)) from hp) (by simp),I.hok.kept hk,?_⟩
 ·-- has
  rcases ckind x hx with h | h
  ·exact Option.isSome_iff_exists.mp (W.cellsFrom_some scope.names _ _ (.inl h))
  ·have hm:=PySem.mem_of_lookup h
   obtain ⟨c,hc⟩:=hasF _ hm rfl
   exact ⟨c,outer hm hc⟩
 ·-- cab
  have hfn:scope.names.lookup x=some .cell:=by simpa using hfn
  rcases all (lk hx) with ⟨_,z⟩ | ⟨z,_⟩
  ·exact absurd (zfZ B.keys z (PySem.mem_of_lookup hfn)) (by decide)
  ·exact Nat.le_of_lt z
 ·-- exf
  obtain ⟨o,ho⟩:=hfo b hb
  refine ⟨qaR (qaQ ho),fun x c hx z=> ?_⟩
  rcases all (lk hx) with ⟨q,_⟩ | ⟨q,_⟩
  ·exact (hf b hb).2.2.2.2.1 x c q z
  ·have:=qaQ ho
   rw [<- z] at this
   exact qaN _ (Nat.lt_trans q this)
 ·-- noex
  rcases (hf b hb).2.2.2.1 with z | z
  ·exact I.ok.noex b o e z
  ·exact qaN _ (qaw (qaw (qaQ e) I.ok.bsz) z)
 ·-- exfs
  rcases qaP.mp (I.stkSub b hb') with z | z
  ·exact (hf b hb).2.1 z
  ·exact (hf b hb).2.2.1 z
 ·-- loc
  unfold bStart at h2
  rw [List.getElem?_map] at h2
  cases e:src[i]? with
  | none=>rw [e] at h2;cases h2
  | some o=>
   rw [e] at h2
   cases o with
   | none=>cases h2
   | some j=>
    have h2:(σ[j]?).join=some v:=by simpa using h2
    have e3:σ[j]? = some (some v):=by
     cases q:σ[j]? with
     | none=>rw [q] at h2;cases h2
     | some z=>rw [q] at h2;simp at h2;rw [h2]
    obtain ⟨b1,b2⟩:=B.src i j x e h1
    have hm:=PySem.mem_of_lookup b2
    obtain ⟨m,hn,hl⟩:=I.loc
    have hfr:=B.free _ hm rfl
    obtain ⟨u,r,l⟩:=hl j x v b1 e3 (.inr hfr)
    rcases l with ⟨k,_⟩ | ⟨k,c,hc,q⟩
    ·rcases hfr with z | z<;>(have z':=k.symm.trans z;cases z')
    ·refine ⟨u,r,.inr ⟨?_,c,outer hm hc,q.keeps hk⟩⟩
     rw [kinds x,b2]
     dsimp only [Option.map]
     split
     ·exact .inl rfl
     ·exact .inr rfl
 ·-- cell
  rcases all (lk h) with ⟨q,_⟩ | ⟨q,q'⟩
  ·obtain ⟨v,z⟩:=I.cell x c q
   exact ⟨v,z.keeps hk⟩
  ·exact ⟨none,hce x c q' (lk h) fun z=>absurd (Nat.lt_trans q (old (cin z).1)) (qaN _)⟩
 ·-- freeC
  rcases all (lk h) with ⟨q,_⟩ | ⟨q,q'⟩
  ·exact I.freeC x c q
  ·exact I.hok.fresh (Nat.le_of_lt q)
 ·unfold bStart
  rw [qaH]
  exact B.len
end
def PCs (X:Cx) (ifs:List Expr) (t:TT):Prop:=
 ∀ (pins:List (Addr×Obj)) (s:Shared) (σ:St) (H:Hp) (Q:Bool->Hp->Prop),Inv X pins σ H s->t σ H Q->
  wpAny (model X.prog X.w) X.A (forIn ifs true fun c r=>if r=true then do let ok<-isTrue c X.env (eval c X.env);pure (ForInStep.yield ok) else pure (ForInStep.yield r)) (TP X pins σ Q) X.xe s
noncomputable def zsp:TT:=fun _ H Q=>Q true H
theorem zm3 {X:Cx}:PCs X [] zsp:=fun pins s σ H Q I h=>wpAny_tests_nil ⟨H,I,h⟩
theorem znr {X:Cx} {c:Expr} {t:TT} (h:PT X c t):PCs X [c] t:=fun pins s σ H Q I hw=>wpAny_tests_one (h pins s σ H Q I hw)
def zo2 (J:It) (g:TG) (tc:TT) (te:TE) (σ0:St) (H1:Hp) (D:Addr) (Q:Hp->Prop):Prop:=
 ∃ W:Nat->Nat->St->Hp->Prop,(∃ m,W 0 m σ0 (upd H1 D (.lst [])))/\ ∀ i m σ' H',W i m σ' H'->
  (J.stop i H'/\Q H')\/(J.go i H'/\ ∃ Nn:St->Hp->Prop,(∀ σ2 H2,Nn σ2 H2-> ∃ m',m'<m/\W (i+1) m' σ2 H2)/\ ∀ x H2,J.yld i H' x H2->g x σ' H2 fun σ2 H3=>tc σ2 H3 fun b H4=>
    if b=true then te σ2 H4 fun y H5=> ∃ xs,H5 D=some (.lst xs)/\xs.length<sizeLine/\Nn σ2 (upd H5 D (.lst (xs++[y]))) else Nn σ2 H4)
section
variable {X:Cx} {scope:Scope} {N:List Str} {src:List (Option Nat)} {tg iter elt:Expr} {ifs:List Expr} {pos:Pos}
theorem zhp {pins:List (Addr×Obj)} {σ:St} {H:Hp} {s₂:Shared} {it:Addr} {fp:List Addr} {tn:Nat->Heap->Prop} {J:It} {g:TG} {tc:TT} {te:TE} {Q:Addr->Hp->Prop} {E:Value->Shared->Prop} {RR:Value->Addr->Result->Shared->Prop}
  (B:BOk X scope N src)
  (hg: ∀ s H fp,PG (cxB X scope N s H fp) tg g) (ht: ∀ s H fp,PCs (cxB X scope N s H fp) ifs tc) (he: ∀ s H fp,PE (cxB X scope N s H fp) elt te)
  (I2:Inv X pins σ H s₂) (T:zpw X.prog X.w X.K tg J fp it tn) (st2:tn 0 s₂.heap) (f2: ∀ b∈fp,zkg X pins H b) (hw: ∀ D,H D=none->zo2 J g tc te (bStart src σ) H D (Q D))
  (hRR: ∀ D C H' s' m,Inv X pins σ H' s'->s'.heap.Ns C m->s₂.heap.objs.size<=C->C<s'.heap.objs.size->H' C=none->Q D H'->RR (.ref D) C (.ok .next) s'):
  wpAny (model X.prog X.w) X.A (newList []) (fun acc s₃=>wpAny (model X.prog X.w) X.A (newFunctionEnv scope X.env.globals (za0 X.env.cells scope.names []) [] X.env.qual none .none (some X.env)) (fun cenv s₄=>
    codeAny (model X.prog X.w) X.A (.compStart (.ListComp elt [⟨tg,iter,ifs,0⟩] scope pos) 0 (.ref it) acc {cenv with scope:=relabel scope X.env}) (RR acc cenv.locals) s₄) E s₃) E s₂:=by
 refine qaC (zev fun h₁ hk₁ hns₁ hce₁=> ?_)
 dsimp only at hk₁ hns₁ hce₁ ⊢
 have hfresh:H s₂.heap.objs.size=none:=I2.hok.fresh (qaV _)
 have I3:Inv X pins σ (upd H s₂.heap.objs.size (.lst [])) {s₂ with heap:=s₂.heap.push {cls:= .type "list",dict:=none,data:= .seq ([]:List Value).toArray}}:=by
  have:=I2.lnew (its:=[]) (ys:=[]) (t':=s₂.toks) .nil (Nat.zero_le _)
  exact this
 obtain ⟨W,⟨m0,w0⟩,turn⟩:=hw _ hfresh
 generalize hD:s₂.heap.objs.size=D at*
 generalize hs3:({s₂ with heap:=s₂.heap.push {cls:= .type "list",dict:=none,data:= .seq ([]:List Value).toArray}}:Shared)=s₃ at*
 have hh3:s₂.heap.push {cls:= .type "list",dict:=none,data:= .seq ([]:List Value).toArray}=s₃.heap:=by rw [<- hs3]
 rw [hh3] at hk₁ hns₁ hce₁ ⊢
 have push3: ∀ b o,s₂.heap.get? b=some o->s₃.heap.get? b=some o:=fun b o e=>by rw [<- hs3];exact qag _ e
 have sz3:s₃.heap.objs.size=D+1:=by rw [<- hs3, <-hD];exact qaL ..
 have fpo: ∀ b∈fp, ∃ o,s₂.heap.get? b=some o/\ ∀ v,o.data≠ .cell v:=T.obj _ _ st2
 have fpD: ∀ b∈fp,b≠D:=fun b hb z=>by
  obtain ⟨o,e,_⟩:=fpo b hb
  have:=qaQ e
  rw [z, <-hD] at this
  exact qaN _ this
 have f3: ∀ b∈fp,zkg X pins (upd H D (.lst [])) b:=fun b hb=>⟨by rw [zao (fpD b hb)];exact (f2 b hb).1,(f2 b hb).2⟩
 have I4:Inv (cxB X scope N s₃ (upd H D (.lst [])) fp) [] (bStart src σ) (upd H D (.lst [])) {s₃ with heap:=h₁}:=
  ziy I3 B f3 (fun b hb=>let ⟨o,e,_⟩:=fpo b hb;⟨o,push3 b o e⟩) hk₁ hns₁ hce₁
 have fB: ∀ {H':Hp},(∀ b∈fp,H' b=none)-> ∀ b∈fp,zkg (cxB X scope N s₃ (upd H D (.lst [])) fp) [] H' b:=fun {H'} hn b hb=>
  ⟨hn b hb,(I4.ok.exf b hb).1,I4.ok.exfs b hb,.inl hb,fun x c e=>(I4.ok.exf b hb).2 x c e,fun p hp=>absurd (show p∈([]:List (Addr×Obj)) from hp) (by simp)⟩
 have stat4: ∀ s',s'=({s₃ with heap:=h₁}:Shared)->codeAny (model X.prog X.w) X.A (.compLoop (.ListComp elt [⟨tg,iter,ifs,0⟩] scope pos) 0 (.ref it) (.ref D) (znk X.env scope s₃.heap.objs.size)) (RR (.ref D) s₃.heap.objs.size) s':=by
  intro s' es
  refine zgf (fun n s'=> ∃ i σ' H',Inv (cxB X scope N s₃ (upd H D (.lst [])) fp) [] σ' H' s'/\tn i s'.heap/\(∀ b∈fp,H' b=none)/\W i n σ' H') ?_ m0 ⟨0,_,_,by rw [es];exact I4,by rw [es];exact T.keep _ _ _ st2 fun b hb o e=>hk₁ b o (push3 b o e),fun b hb=>(f3 b hb).1,w0⟩
  rintro n s5 ⟨i,σ5,H5,I5,st5,fr5,w5⟩
  rcases turn i n σ5 H5 w5 with ⟨stop,qn⟩ | ⟨go,Nn,hN,step⟩
  ·refine thn (T.done (cxB X scope N s₃ (upd H D (.lst [])) fp) rfl rfl rfl i [] s5 σ5 H5 _ I5 (fB fr5) st5 stop) fun r s6 ⟨hr,I6⟩=> ?_
   subst hr
   obtain ⟨m,hnC,_⟩:=I6.loc
   have un:=I6.base
   have u2:Un (frs X.stack) fp H H5 s₂.heap s6.heap:=by
    refine Un.trans ?_ un
    have:=Un.laid (fs:=frs X.stack) (ex:=fp) (H:=H) (h:=s₂.heap) (h':=s₃.heap) (a:=D) (o:= .lst []) push3 (Nat.le_of_eq hD) hfresh
    exact this
   refine hRR D _ H5 s6 m (I2.call' (ch:=fp) (by rw [I6.os, <-hs3]) u2 I6.hok I6.bare fun b hb=> ?_) hnC (by rw [sz3];exact Nat.le_succ _) hnC.lt I6.free qn
   obtain ⟨q0,q1,q2,q3,q4,q5⟩:=f2 b hb
   exact ⟨q3,q1,q4,q5⟩
  ·refine thn (T.item (cxB X scope N s₃ (upd H D (.lst [])) fp) rfl rfl rfl i [] s5 σ5 H5 _ I5 (fB fr5) st5 go) fun r s6 ⟨u,hr,h6⟩=> ?_
   subst hr
   refine thn h6 fun _ s7 ⟨x,H7,I7,r7,y7,st7,fr7⟩=> ?_
   have I7':=I7.pinned (fB fr7) (T.obj _ _ st7)
   refine thn (hg _ _ _ _ s7 σ5 H7 x u _ I7' r7 (step x H7 y7)) fun _ s8 ⟨σ8,H8,I8,q8⟩=> ?_
   refine thn (ht _ _ _ _ s8 σ8 H8 _ I8 q8) fun ok s9 ⟨H9,I9,q9⟩=> ?_
   have again: ∀ {σ7:St} {Hz:Hp} {sz:Shared},Inv (cxB X scope N s₃ (upd H D (.lst [])) fp) ([]++zfY fp s7.heap) σ7 Hz sz->Nn σ7 Hz-> ∃ m,m<n/\ ∃ i σ' H',Inv (cxB X scope N s₃ (upd H D (.lst [])) fp) [] σ' H' sz/\tn i sz.heap/\(∀ b∈fp,H' b=none)/\W i m σ' H':=fun {σz Hz sz} Iz nz=>by
    obtain ⟨m',hm,wz⟩:=hN _ _ nz
    refine ⟨m',hm,i+1,_,_,Iz.unpinned,T.keep _ _ _ st7 fun b hb o e=>(Iz.pin (b,o) (qak _ (qak _ (zcz hb e)))).1,fun b hb=> ?_,wz⟩
    obtain ⟨o,e,d⟩:=T.obj _ _ st7 b hb
    exact (Iz.pin (b,o) (qak _ (qak _ (zcz hb e)))).2.1
   cases ok with
   | false=>
    rw [qa5 (by decide)] at q9
    rw [qa5 (by decide)]
    exact again I9 q9
   | true=>
    rw [qa4 rfl] at q9
    rw [qa4 rfl]
    refine thn (he _ _ _ _ s9 σ8 H9 _ I9 q9) fun y s10 ⟨yv,H10,I10,ry,xs,e10,z10,q10⟩=> ?_
    refine thn (zfQ (X:=cxB X scope N s₃ (upd H D (.lst [])) fp) _ s10 σ8 H10 (.ref D) [yv] (.ref D) [y] (fun _ Hf=>Nn σ8 Hf) I10 rfl (.cons ry .nil) ⟨D,xs,yv,rfl,rfl,e10,z10,q10⟩) fun _ s11 ⟨_,H11,I11,_,q11⟩=> ?_
    exact again I11 q11
 exact codeAny_compStart_list (stat4 _ (by rw [<- hs3])) (T.self _ 0 _ _ _ (T.keep _ _ _ st2 fun b hb o e=>hk₁ b o (push3 b o e)) (stat4 _ (by rw [<- hs3])))
noncomputable def zjS (wi:TI) (g:TG) (tc:TT) (te:TE) (src:List (Option Nat)):TE:=fun σ H Q=>wi σ H fun J H1=> ∀ D,H1 D=none->zo2 J g tc te (bStart src σ) H1 D fun H'=>Q (.ref D) H'
theorem Inv.letGo {pins:List (Addr×Obj)} {σ:St} {H:Hp} {s:Shared} {C:Addr} {m:Str->Option Value} {h':Heap} (I:Inv X pins σ H s) (hn:s.heap.Ns C m) (hn':H C=none) (hC:X.s₀.heap.objs.size<=C) (hL:C≠X.env.locals) (hp: ∀ p∈X.pn++pins,p.1≠C) (hs:Heap.SameBut C s.heap h'):Inv X pins σ H {s with heap:=h'}:=by
 refine I.turned (t':=s.toks) (it:=C) (fun b o hb e=>(hs.2 b hb).trans e) hn' hL (.inr hC) (fun x c e z=> ?_) hp
 obtain ⟨v,o,ho,hd⟩:=I.cell x c e
 obtain ⟨o',es,ep,ho',hd',_⟩:=hn
 rw [z,ho'] at ho
 cases ho
 rw [hd'] at hd
 cases hd
theorem zgv {wi:TI} {g:TG} {tc:TT} {te:TE} (B:BOk X scope N src) (hi:PI X tg iter wi)
  (hg: ∀ s H fp,PG (cxB X scope N s H fp) tg g) (ht: ∀ s H fp,PCs (cxB X scope N s H fp) ifs tc) (he: ∀ s H fp,PE (cxB X scope N s H fp) elt te)
  (hs: ∀ x,foldedSetIterable iter X.env x=pure x:=by intro _;rfl):PE X (.ListComp elt [⟨tg,iter,ifs,0⟩] scope pos) (zjS wi g tc te src):=by
 intro pins s σ H Q I h
 rw [eval_ListComp]
 refine wpAny_comprehension_free (use:=none) rfl hs (zcT fun x hx e=>I.ok.has x.1 (B.free x hx e)) B.kind B.locs ?_
 refine thn (hi pins s σ H _ I h) fun v s1 h1=>thn h1 fun itv s2 h2=> ?_
 obtain ⟨it,fp,tn,J,H2,e,I2,T,st2,f2,hw⟩:=h2
 subst e
 refine zhp (RR:=fun acc C=>compPost (model X.prog X.w) X.A X.xe none (EP X pins σ Q) acc C) (Q:=fun D H'=>Q (.ref D) H') B hg ht he I2 T st2 f2 hw ?_
 intro D C H' s' m I' hn hC hCs hf q
 refine ⟨m,hn,fun h' hs'=>⟨.ref D,H',I'.letGo hn hf (qaS I2.sz hC) (fun z=> ?_) (fun p hp z=> ?_) hs',rfl,q⟩⟩
 ·exact qaN _ (qaw (z▸I2.lt) hC)
 ·have:=qaQ (I2.pin p hp).1
  rw [z] at this
  exact qaN _ (qaw this hC)
theorem zia {wi:TI} {g:TG} {tc:TT} {te:TE} {i:Nat} {y:Str} {py spos:Pos} (B:BOk X scope N src) (hi:PI X tg iter wi)
  (hg: ∀ s H fp,PG (cxB X scope N s H fp) tg g) (ht: ∀ s H fp,PCs (cxB X scope N s H fp) ifs tc) (he: ∀ s H fp,PE (cxB X scope N s H fp) elt te)
  (hN:X.N.Nodup) (hy:X.N[i]? = some y) (hx:Loc X.env.scope y) (hsw:swapsWith (.ListComp elt [⟨tg,iter,ifs,0⟩] scope pos) (some (.Name y py)) spos.line X.env=pure true)
  (hf:X.fn y=true\/X.env.scope.names.lookup y=some .local:=by first | exact .inl rfl | exact .inr rfl | assumption)
  (hs: ∀ x,foldedSetIterable iter X.env x=pure x:=by intro _;rfl):PS X (.Assign [.Name y py] (.ListComp elt [⟨tg,iter,ifs,0⟩] scope pos) spos) (zqW (zjS wi g tc te src) (znV i)):=by
 intro pins s σ H D0 I h
 rw [exec_Assign_Name_used _ _ _ _ hsw]
 refine qaW (wpAny_standAt (qaW ?_))
 show wpAny _ X.A (do let _<-comprehension (.ListComp elt [⟨tg,iter,ifs,0⟩] scope pos) scope X.env _ (newList []) false (eval iter X.env) (some (assign (.Name y py) X.env))) _ _ s
 refine qaW (qaZ (wpAny_comprehension_free (use:=some (assign (.Name y py) X.env)) (Q:=fun _ s'=>SP X pins D0 .next s') rfl hs (zcT fun x hx e=>I.ok.has x.1 (B.free x hx e)) B.kind B.locs ?_)
   (fun _ s' hq=>qaX (qaX hq)) fun _ _ e=>e)
 refine thn (hi pins s σ H _ I h) fun v s1 h1=>thn h1 fun itv s2 h2=> ?_
 obtain ⟨it,fp,tn,J,H2,e,I2,T,st2,f2,hw⟩:=h2
 subst e
 refine zhp (RR:=fun acc C=>compPost (model X.prog X.w) X.A X.xe (some (assign (.Name y py) X.env)) (fun _ s'=>SP X pins D0 .next s') acc C) (Q:=fun D H'=>D0.nx (σ.set i (some (.ref D))) H') B hg ht he I2 T st2 f2 hw ?_
 intro D C H' s' m I' hn hC hCs hf' q
 show wpAny _ X.A (assign (.Name y py) X.env (.ref D)) _ _ _
 have hCL:C≠X.env.locals:=fun z=>qaN _ (qaw (z▸I2.lt) hC)
 have hCp: ∀ p∈X.pn++pins,p.1≠C:=fun p hp z=>by
  have:=qaQ (I2.pin p hp).1
  rw [z] at this
  exact qaN _ (qaw this hC)
 have hCc: ∀ x c,X.env.cells.lookup x=some c->c≠C:=fun x c e z=>by
  obtain ⟨v,hv⟩:=I2.cell x c e
  exact qaN _ (qaw (z▸hv.lt) hC)
 obtain ⟨oC,es,ep,hoC,hdC,hrest⟩:=hn
 have hCfs:C∉X.fs:=I2.nofs hC
 have Ip:Inv X (pins++[(C,oC)]) σ H' s':=I'.pins_of fun p hp=>by
  rcases qaK.mp hp with z | z
  ·exact I'.pin p (qak _ z)
  ·obtain rfl:p=(C,oC):=by simpa using z
   exact ⟨hoC,hf',hCL,hCfs,fun v z=>by have z':=hdC.symm.trans z;cases z'⟩
 refine wpAny_assign_Name (zfi Ip hN hy hx (v:= .ref D) rfl (fun s3 I3=> ?_) hf)
 have hC3:=(I3.pin (C,oC) (by simp)).1
 refine ⟨m,⟨oC,es,ep,hC3,hdC,hrest⟩,fun h' hs'=> ?_⟩
 exact ⟨_,H',(I3.unpinned).letGo ⟨oC,es,ep,hC3,hdC,hrest⟩ hf' (qaS I2.sz hC) hCL hCp hs',q⟩
end
end L2
namespace L3
open PySem PySem.Spec PyProof.Rows L2
inductive D where
 | non | bl (b:Bool) | int (i:Int) | str (x:Str) | tup (xs:List D) | lst (xs:List D) | cel (n:Nat) | set (xs:List Int) | dct | fn (a:Addr) | scr (xs:List D) | exn (c:String)
inductive C where
 | lst (xs:List D) | dic (kvs:List (Int×D)) | dead
noncomputable abbrev Hh:=List C
structure Io where
 c:List (Option Addr)
 x:List Addr
def Io.Has (ι:Io) (a:Addr):Prop:=some a∈ι.c\/a∈ι.x
inductive R (α:Type) where
 | ok (a:α) (h:Hh) | exc (c:String) (h:Hh) | bad
noncomputable def M (α:Type):=Hh->R α
@[inline] noncomputable def M.bind {α β:Type} (m:M α) (f:α->M β):M β:=fun h=>match m h with
 | .ok a h'=>f a h'
 | .exc c h'=> .exc c h'
 | .bad=> .bad
@[inline] noncomputable def M.pure {α:Type} (a:α):M α:=fun h=> .ok a h
noncomputable instance:Monad M where
 pure:=M.pure
 bind:=M.bind
noncomputable def M.bad {α:Type}:M α:=fun _=> .bad
def KL (K:W.Frag) (a:Addr) (xs:List V):Prop:=SqL K (fun _=>none) a xs
mutual
noncomputable def Rel (K:W.Frag) (ι:Io) (H:Hp):D->V->Prop
 | .non,v=>v= .non
 | .bl b,v=>v= .bl b
 | .int i,v=>v= .int i
 | .str x,v=>v= .str x
 | .tup ds,v=> ∃ a vs,v= .ref a/\(H a=some (.tup vs)/\ ¬ι.Has a)/\zal K ι H ds vs
 | .lst ds,v=> ∃ a vs,v= .ref a/\(H a=some (.lst vs)/\ ¬ι.Has a)/\zal K ι H ds vs
 | .scr ds,v=> ∃ a vs,v= .ref a/\((Rd H a (.lst vs)/\ ¬ι.Has a)\/KL K a vs)/\zal K ι H ds vs
 | .cel n,v=> ∃ a,v= .ref a/\(ι.c[n]? = some (some a)\/ι.c[n]? = some none)
 | .set xs,v=> ∃ a,v= .ref a/\H a=some (.set (fun k=>xs.any (· == k)) xs.length)/\ ¬ι.Has a
 | .dct,v=> ∃ a,v= .ref a/\H a=some (.dK [])/\ ¬ι.Has a
 | .fn a,v=>v= .ref a
 | .exn c,v=> ∃ a o C head vs,v= .ref a/\(H a=some (.frz o (.own 0))/\ ¬ι.Has a)/\W.nsIn K mainGlobals (c:Str)=some (some (.ref C))/\o.cls= .ref C/\o.dict=none/\o.data= .fields vs/\vs[2]? = some .none/\vs[1]? = some head
noncomputable def zal (K:W.Frag) (ι:Io) (H:Hp):List D->List V->Prop
 | [],vs=>vs=[]
 | d::ds,vs=> ∃ v r,vs=v::r/\Rel K ι H d v/\zal K ι H ds r
end
structure zaW (ι:Io) (H:Hp) (ι':Io) (H':Hp):Prop where
 old: ∀ (n:Nat) (o:Option Addr),ι.c[n]? = some o->ι'.c[n]? = some o\/ι'.c[n]? = some none
 new: ∀ a,some a∈ι'.c->some a∈ι.c\/H a=none
 hid:ι'.x=ι.x
 hidk: ∀ a∈ι.x,H' a=H a
 keep: ∀ b o,H b=some o-> ¬ι.Has b->H' b=some o
theorem zaW.refl (ι:Io) (H:Hp):zaW ι H ι H:=⟨fun _ _ h=> .inl h,fun _ h=> .inl h,rfl,fun _ _=>rfl,fun _ _ h _=>h⟩
theorem zaW.nin {ι ι':Io} {H H':Hp} (s:zaW ι H ι' H') {a:Addr} {o:HO} (h:H a=some o) (n: ¬ι.Has a): ¬ι'.Has a:=fun z=>by
 rcases z with z | z
 ·rcases s.new a z with z | z
  ·exact n (.inl z)
  ·rw [h] at z;cases z
 ·rw [s.hid] at z;exact n (.inr z)
theorem zaW.trans {ι ι1 ι2:Io} {H H1 H2:Hp} (s:zaW ι H ι1 H1) (t:zaW ι1 H1 ι2 H2):zaW ι H ι2 H2 where
 old:=fun n o h=>by
  rcases s.old n o h with h | h
  ·exact t.old n o h
  ·rcases t.old n _ h with h | h<;>exact .inr h
 new:=fun a h=>by
  rcases t.new a h with h | h
  ·exact s.new a h
  ·by_cases z:some a∈ι.c
   ·exact .inl z
   ·refine .inr ?_
    cases q:H a with
    | none=>rfl
    | some o=>
     by_cases z':a∈ι.x
     ·rw [s.hidk a z',q] at h;cases h
     ·rw [s.keep a o q (fun w=>w.elim z z')] at h;cases h
 hid:=t.hid.trans s.hid
 hidk:=fun a h=>(t.hidk a (by rw [s.hid];exact h)).trans (s.hidk a h)
 keep:=fun b o h n=>t.keep b o (s.keep b o h n) (s.nin h n)
theorem zaW.rd {ι ι':Io} {H H':Hp} (s:zaW ι H ι' H') {a:Addr} {u:HO} (h:Rd H a u) (n: ¬ι.Has a):Rd H' a u/\ ¬ι'.Has a:=by
 rcases h with h | ⟨o,h⟩
 ·exact ⟨.inl (s.keep _ _ h n),s.nin h n⟩
 ·exact ⟨.inr ⟨o,s.keep _ _ h n⟩,s.nin h n⟩
structure Pass (ι:Io) (H:Hp) (ι':Io) (H':Hp):Prop where
 old: ∀ (n:Nat) (o:Option Addr),ι.c[n]? = some o->ι'.c[n]? = some o\/ι'.c[n]? = some none
 keep: ∀ b o,H b=some o-> ¬ι.Has b->H' b=some o/\ ¬ι'.Has b
theorem zaW.pass {ι ι':Io} {H H':Hp} (s:zaW ι H ι' H'):Pass ι H ι' H':=⟨s.old,fun b o h n=>⟨s.keep b o h n,s.nin h n⟩⟩
theorem Pass.rd {ι ι':Io} {H H':Hp} (s:Pass ι H ι' H') {a:Addr} {u:HO} (h:Rd H a u) (n: ¬ι.Has a):Rd H' a u/\ ¬ι'.Has a:=by
 rcases h with h | ⟨o,h⟩
 ·exact ⟨.inl (s.keep _ _ h n).1,(s.keep _ _ h n).2⟩
 ·exact ⟨.inr ⟨o,(s.keep _ _ h n).1⟩,(s.keep _ _ h n).2⟩
section
variable {K:W.Frag} {ι ι':Io} {H H':Hp}
mutual
theorem Rel.pass (s:Pass ι H ι' H'): ∀ {d:D} {v:V},Rel K ι H d v->Rel K ι' H' d v
 | .non,_,h=>by simpa [Rel] using h
 | .bl _,_,h=>by simpa [Rel] using h
 | .int _,_,h=>by simpa [Rel] using h
 | .str _,_,h=>by simpa [Rel] using h
 | .tup ds,v,h=>by
  simp only [Rel] at h ⊢
  obtain ⟨a,vs,e,h1,h2⟩:=h
  exact ⟨a,vs,e,s.keep _ _ h1.1 h1.2,zal.pass s h2⟩
 | .lst ds,v,h=>by
  simp only [Rel] at h ⊢
  obtain ⟨a,vs,e,h1,h2⟩:=h
  exact ⟨a,vs,e,s.keep _ _ h1.1 h1.2,zal.pass s h2⟩
 | .scr ds,v,h=>by
  simp only [Rel] at h ⊢
  obtain ⟨a,vs,e,h1,h2⟩:=h
  exact ⟨a,vs,e,h1.imp (fun z=>s.rd z.1 z.2) id,zal.pass s h2⟩
 | .cel n,v,h=>by
  simp only [Rel] at h ⊢
  obtain ⟨a,e,h⟩:=h
  refine ⟨a,e,?_⟩
  rcases h with h | h
  ·exact s.old n _ h
  ·rcases s.old n _ h with h | h<;>exact .inr h
 | .set xs,v,h=>by
  simp only [Rel] at h ⊢
  obtain ⟨a,e,h,n⟩:=h
  exact ⟨a,e,(s.keep _ _ h n).1,(s.keep _ _ h n).2⟩
 | .dct,v,h=>by
  simp only [Rel] at h ⊢
  obtain ⟨a,e,h,n⟩:=h
  exact ⟨a,e,(s.keep _ _ h n).1,(s.keep _ _ h n).2⟩
 | .fn _,_,h=>by simpa [Rel] using h
 | .exn _,_,h=>by
  simp only [Rel] at h ⊢
  obtain ⟨a,o,C,head,vs,e,h1,h2⟩:=h
  exact ⟨a,o,C,head,vs,e,s.keep _ _ h1.1 h1.2,h2⟩
theorem zal.pass (s:Pass ι H ι' H'): ∀ {ds:List D} {vs:List V},zal K ι H ds vs->zal K ι' H' ds vs
 | [],_,h=>by simpa [zal] using h
 | d::ds,_,h=>by
  simp only [zal] at h ⊢
  obtain ⟨v,r,e,h1,h2⟩:=h
  exact ⟨v,r,e,Rel.pass s h1,zal.pass s h2⟩
end
theorem Rel.step (s:zaW ι H ι' H') {d:D} {v:V} (h:Rel K ι H d v):Rel K ι' H' d v:=h.pass s.pass
theorem zal.step (s:zaW ι H ι' H') {ds:List D} {vs:List V} (h:zal K ι H ds vs):zal K ι' H' ds vs:=h.pass s.pass
theorem zal.nil:zal K ι H [] []:=by simp [zal]
theorem zal.cons {d:D} {ds:List D} {v:V} {vs:List V} (h:Rel K ι H d v) (t:zal K ι H ds vs):zal K ι H (d::ds) (v::vs):=by simp only [zal];exact ⟨v,vs,rfl,h,t⟩
theorem zal.length: ∀ {ds:List D} {vs:List V},zal K ι H ds vs->ds.length=vs.length
 | [],_,h=>by simp only [zal] at h;subst h;rfl
 | d::ds,_,h=>by
  simp only [zal] at h
  obtain ⟨v,r,rfl,_,h⟩:=h
  simp [zal.length h]
theorem zal.get: ∀ {ds:List D} {vs:List V} {i:Nat} {d:D},zal K ι H ds vs->ds[i]? = some d-> ∃ v,vs[i]? = some v/\Rel K ι H d v
 | [],_,_,_,_,e=>by simp at e
 | d::ds,_,i,x,h,e=>by
  simp only [zal] at h
  obtain ⟨v,r,rfl,h1,h2⟩:=h
  cases i with
  | zero=>simp at e;subst e;exact ⟨v,rfl,h1⟩
  | succ i=>simp at e;simpa using zal.get h2 e
theorem zal.getV: ∀ {ds:List D} {vs:List V} {i:Nat} {v:V},zal K ι H ds vs->vs[i]? = some v-> ∃ d,ds[i]? = some d/\Rel K ι H d v
 | [],_,_,_,h,e=>by simp only [zal] at h;subst h;simp at e
 | d::ds,_,i,x,h,e=>by
  simp only [zal] at h
  obtain ⟨v,r,rfl,h1,h2⟩:=h
  cases i with
  | zero=>simp at e;subst e;exact ⟨d,rfl,h1⟩
  | succ i=>simp at e;simpa using zal.getV h2 e
theorem zal.append: ∀ {ds es:List D} {vs ws:List V},zal K ι H ds vs->zal K ι H es ws->zal K ι H (ds++es) (vs++ws)
 | [],_,_,_,h,t=>by simp only [zal] at h;subst h;exact t
 | d::ds,es,_,ws,h,t=>by
  simp only [zal] at h
  obtain ⟨v,r,rfl,h1,h2⟩:=h
  exact zal.cons h1 (zal.append h2 t)
theorem zal.take: ∀ {ds:List D} {vs:List V} (n:Nat),zal K ι H ds vs->zal K ι H (ds.take n) (vs.take n)
 | _,_,0,_=>by simpa using zal.nil
 | [],_,n+1,h=>by simp only [zal] at h;subst h;exact zal.nil
 | d::ds,_,n+1,h=>by
  simp only [zal] at h
  obtain ⟨v,r,rfl,h1,h2⟩:=h
  exact zal.cons h1 (zal.take n h2)
theorem zal.drop: ∀ {ds:List D} {vs:List V} (n:Nat),zal K ι H ds vs->zal K ι H (ds.drop n) (vs.drop n)
 | _,_,0,h=>h
 | [],_,n+1,h=>by simp only [zal] at h;subst h;exact zal.nil
 | d::ds,_,n+1,h=>by
  simp only [zal] at h
  obtain ⟨v,r,rfl,h1,h2⟩:=h
  exact zal.drop n h2
theorem zal.reverse {ds:List D} {vs:List V} (h:zal K ι H ds vs):zal K ι H ds.reverse vs.reverse:=by
 induction ds generalizing vs with
 | nil=>simp only [zal] at h;subst h;exact zal.nil
 | cons d ds ih=>
  simp only [zal] at h
  obtain ⟨v,r,rfl,h1,h2⟩:=h
  rw [List.reverse_cons,List.reverse_cons]
  exact zal.append (ih h2) (zal.cons h1 zal.nil)
theorem zal.set {d:D} {v:V} (hd:Rel K ι H d v): ∀ {ds:List D} {vs:List V} (i:Nat),zal K ι H ds vs->zal K ι H (ds.set i d) (vs.set i v)
 | [],_,_,h=>by simp only [zal] at h;subst h;exact zal.nil
 | x::ds,_,i,h=>by
  simp only [zal] at h
  obtain ⟨w,r,rfl,h1,h2⟩:=h
  cases i with
  | zero=>exact zal.cons hd h2
  | succ i=>exact zal.cons h1 (zal.set hd i h2)
theorem zb2: ∀ {is:List Int} {vs:List V},zal K ι H (is.map D.int) vs↔vs=is.map V.int
 | [],vs=>by simp [zal]
 | i::is,vs=>by
  simp only [qaM,zal]
  constructor
  ·rintro ⟨v,r,rfl,h1,h2⟩
   simp only [Rel] at h1
   rw [h1,zb2.mp h2]
  ·rintro rfl
   exact ⟨_,_,rfl,by simp [Rel],zb2.mpr rfl⟩
noncomputable def CO (K:W.Frag) (ι:Io) (H:Hp):C->HO->Prop
 | .lst ds,o=> ∃ vs,o= .lst vs/\zal K ι H ds vs
 | .dic kvs,o=> ∃ vs,o= .dK vs/\Paired (fun (p:Int×D) (q:Key×V)=>q.1= .inl p.1/\Rel K ι H p.2 q.2) kvs vs
 | .dead,_=>False
theorem CO.pass {c:C} {o:HO} (s:Pass ι H ι' H') (h:CO K ι H c o):CO K ι' H' c o:=by
 cases c with
 | lst ds=>obtain ⟨vs,e,r⟩:=h;exact ⟨vs,e,r.pass s⟩
 | dic kvs=>
  obtain ⟨vs,e,r⟩:=h
  refine ⟨vs,e,?_⟩
  clear e
  induction r with
  | nil=>exact .nil
  | cons a t ih=>exact .cons ⟨a.1,a.2.pass s⟩ ih
 | dead=>exact h
structure zaN (K:W.Frag) (ι:Io) (H:Hp) (h:Hh):Prop where
 len:h.length=ι.c.length
 inj: ∀ (m n:Nat) (a:Addr),ι.c[m]? = some (some a)->ι.c[n]? = some (some a)->m=n
 at_: ∀ (n:Nat) (a:Addr) (c:C),ι.c[n]? = some (some a)->h[n]? = some c-> ∃ o,H a=some o/\CO K ι H c o
 dead: ∀ (n:Nat),ι.c[n]? = some none->h[n]? = some .dead
 hidt: ∀ a∈ι.x,(∃ o,H a=some o)/\some a∉ι.c
noncomputable abbrev Sd:=List (Option D)
def zbu (K:W.Frag) (ι:Io) (H:Hp) (sd:Sd) (σ:L2.St):Prop:=sd.length=σ.length/\ ∀ (i:Nat) (d:D),sd[i]? = some (some d)-> ∃ v,σ[i]? = some (some v)/\Rel K ι H d v
theorem zbu.pass {sd:Sd} {σ:L2.St} (s:Pass ι H ι' H') (h:zbu K ι H sd σ):zbu K ι' H' sd σ:=⟨h.1,fun i d e=>let ⟨v,h1,h2⟩:=h.2 i d e;⟨v,h1,h2.pass s⟩⟩
theorem zbu.step {sd:Sd} {σ:L2.St} (s:zaW ι H ι' H') (h:zbu K ι H sd σ):zbu K ι' H' sd σ:=⟨h.1,fun i d e=>let ⟨v,h1,h2⟩:=h.2 i d e;⟨v,h1,h2.step s⟩⟩
theorem zbu.set {sd:Sd} {σ:L2.St} {d:D} {v:V} (h:zbu K ι H sd σ) (r:Rel K ι H d v) (i:Nat):zbu K ι H (sd.set i (some d)) (σ.set i (some v)):=by
 refine ⟨by rw [qaI,qaI];exact h.1,fun j d' e=> ?_⟩
 by_cases hij:i=j
 ·subst hij
  by_cases hl:i<sd.length
  ·rw [qai hl] at e
   cases e
   exact ⟨v,by rw [qai (by rw [<- h.1];exact hl)],r⟩
  ·rw [List.getElem?_eq_none (by rw [qaI];omega)] at e
   cases e
 ·rw [qao hij] at e ⊢
  exact h.2 j d' e
theorem zbu.skip {sd:Sd} {σ:L2.St} {o:Option V} (h:zbu K ι H sd σ) (i:Nat) (hn:sd[i]? = some none):zbu K ι H sd (σ.set i o):=by
 refine ⟨by rw [qaI];exact h.1,fun j d' e=> ?_⟩
 by_cases hij:i=j
 ·subst hij;rw [hn] at e;cases e
 ·rw [qao hij];exact h.2 j d' e
end
noncomputable abbrev St:=L2.St
noncomputable abbrev XE:=String->Hp->Prop
def Fin {α:Type} (K:W.Frag) (E:XE) (ι:Io) (H:Hp) (r:R α) (P:α->Io->Hp->Prop):Prop:=match r with
 | .ok a h'=> ∀ ι' H',zaW ι H ι' H'->zaN K ι' H' h'->P a ι' H'
 | .exc c h'=> ∀ ι' H',zaW ι H ι' H'->zaN K ι' H' h'->E c H'
 | .bad=>False
section
variable {α β:Type} {K:W.Frag} {E:XE} {ι ι':Io} {H H':Hp}
theorem Fin.step {r:R α} {P:α->Io->Hp->Prop} (s:zaW ι H ι' H') (h:Fin K E ι H r P):Fin K E ι' H' r P:=by
 cases r with
 | ok a h'=>exact fun ι2 H2 t hr=>h ι2 H2 (s.trans t) hr
 | exc c h'=>exact fun ι2 H2 t hr=>h ι2 H2 (s.trans t) hr
 | bad=>exact h
theorem Fin.mono {r:R α} {P P':α->Io->Hp->Prop} (h:Fin K E ι H r P) (m: ∀ a ι' H',P a ι' H'->P' a ι' H'):Fin K E ι H r P':=by
 cases r with
 | ok a h'=>exact fun ι2 H2 t hr=>m _ _ _ (h ι2 H2 t hr)
 | exc c h'=>exact h
 | bad=>exact h
theorem Fin.bind {m:M α} {f:α->M β} {h:Hh} {P:β->Io->Hp->Prop} {P':α->Io->Hp->Prop} (q:Fin K E ι H ((m>>=f) h) P)
  (k: ∀ a h' ι' H',m h= .ok a h'->zaW ι H ι' H'->zaN K ι' H' h'->Fin K E ι' H' (f a h') P->P' a ι' H'):Fin K E ι H (m h) P':=by
 have q':Fin K E ι H (M.bind m f h) P:=q
 unfold M.bind at q'
 cases e:m h with
 | ok a h'=>
  rw [e] at q'
  intro ι' H' s hr
  exact k a h' ι' H' e s hr (Fin.step s q')
 | exc c h'=>rw [e] at q';exact q'
 | bad=>rw [e] at q';exact q'
theorem Fin.out {a:α} {h:Hh} {P:α->Io->Hp->Prop} (hr:zaN K ι H h) (q:Fin K E ι H ((pure a:M α) h) P):P a ι H:=q ι H (zaW.refl _ _) hr
end
noncomputable def zeR (K:W.Frag) (E:XE) (f:Sd->M D):TE:=fun σ H Q=> ∃ ι h sd,zbu K ι H sd σ/\zaN K ι H h/\Fin K E ι H (f sd h) fun d ι' H'=> ∀ v,Rel K ι' H' d v->Q v H'
noncomputable def zeg (K:W.Frag) (E:XE) (f:Sd->M Bool):TT:=fun σ H Q=> ∃ ι h sd,zbu K ι H sd σ/\zaN K ι H h/\Fin K E ι H (f sd h) fun b ι' H'=>Q b H'
noncomputable def zst (K:W.Frag) (E:XE) (f:Sd->M (List D)):TA:=fun σ H Q=> ∃ ι h sd,zbu K ι H sd σ/\zaN K ι H h/\Fin K E ι H (f sd h) fun ds ι' H'=> ∀ vs,zal K ι' H' ds vs->Q vs H'
noncomputable abbrev SE (X:Cx) (E:XE) (e:Expr) (f:Sd->M D):Prop:=PE X e (zeR X.K E f)
noncomputable abbrev ST (X:Cx) (E:XE) (e:Expr) (f:Sd->M Bool):Prop:=PT X e (zeg X.K E f)
noncomputable abbrev SA (X:Cx) (E:XE) (es:List Expr) (f:Sd->M (List D)):Prop:=PA X es (zst X.K E f)
noncomputable def zde (K:W.Frag) (E:XE) (F:D->D->M D):R2:=fun x y H Q=> ∃ ι h d1 d2,Rel K ι H d1 x/\Rel K ι H d2 y/\zaN K ι H h/\Fin K E ι H (F d1 d2 h) fun d ι' H'=> ∀ v,Rel K ι' H' d v->Q v H'
noncomputable def zgO (K:W.Frag) (E:XE) (F:List D->M D):List V->Hp->VK->Prop:=fun xs H Q=> ∃ ι h ds,zal K ι H ds xs/\zaN K ι H h/\Fin K E ι H (F ds h) fun d ι' H'=> ∀ v,Rel K ι' H' d v->Q v H'
theorem PE.imp {X:Cx} {e:Expr} {t t':TE} (h:PE X e t) (m: ∀ σ H Q,t' σ H Q->t σ H Q):PE X e t':=fun pins s σ H Q I q=>h pins s σ H Q I (m _ _ _ q)
theorem PT.imp {X:Cx} {e:Expr} {t t':TT} (h:PT X e t) (m: ∀ σ H Q,t' σ H Q->t σ H Q):PT X e t':=fun pins s σ H Q I q=>h pins s σ H Q I (m _ _ _ q)
theorem PA.imp {X:Cx} {e:List Expr} {t t':TA} (h:PA X e t) (m: ∀ σ H Q,t' σ H Q->t σ H Q):PA X e t':=fun pos pins s σ H Q I q=>h pos pins s σ H Q I (m _ _ _ q)
theorem OpR.imp {X:Cx} {f:Value->Value->Sem Value} {r r':R2} (h:OpR X f r) (m: ∀ x y H Q,r' x y H Q->r x y H Q):OpR X f r':=fun pins s σ H x y v u Q I rx ry q=>h pins s σ H x y v u Q I rx ry (m _ _ _ _ q)
theorem zax.imp {X:Cx} {f:Value} {r r':List V->Hp->VK->Prop} (h:zax X f r) (m: ∀ xs H Q,r' xs H Q->r xs H Q):zax X f r':=by
 intro pins s σ H xs us Q I rx q
 exact h pins s σ H xs us Q I rx (m _ _ _ q)
theorem IxR.imp {X:Cx} {r r':R2} (h:IxR X r) (m: ∀ x y H Q,r' x y H Q->r x y H Q):IxR X r':=by
 intro value slice pins s σ H x y v u Q I rx ry q hs
 exact h value slice pins s σ H x y v u Q I rx ry (m _ _ _ _ q) hs
theorem MtM.imp {X:Cx} {id:String} {r r':V->List V->Hp->VK->Prop} (h:MtM X id r) (m: ∀ x xs H Q,r' x xs H Q->r x xs H Q):MtM X id r':=fun pins s σ H x xs v us Q I rx rs q=>h pins s σ H x xs v us Q I rx rs (m _ _ _ _ q)
theorem SlR.imp {X:Cx} {r r':V->Option Int->Option Int->Hp->VK->Prop} (h:SlR X r) (m: ∀ x l u H Q,r' x l u H Q->r x l u H Q):SlR X r':=fun pins s σ H x v vl vu lo hi sl Q I rx hs pl pu q=>h pins s σ H x v vl vu lo hi sl Q I rx hs pl pu (m _ _ _ _ _ q)
theorem zoi.imp {X:Cx} {r r':zpY} (h:zoi X r) (m: ∀ o i v H Q,r' o i v H Q->r o i v H Q):zoi X r':=fun pins s σ H o i v ov iv u Q I ro ri rv q=>h pins s σ H o i v ov iv u Q I ro ri rv (m _ _ _ _ _ q)
theorem PI.imp {X:Cx} {tg iter:Expr} {t t':TI} (h:PI X tg iter t) (m: ∀ σ H Q,t' σ H Q->t σ H Q):PI X tg iter t':=fun pins s σ H Q I q=>h pins s σ H Q I (m _ _ _ q)
theorem PG.imp {X:Cx} {tg:Expr} {t t':TG} (h:PG X tg t) (m: ∀ v σ H Q,t' v σ H Q->t v σ H Q):PG X tg t':=fun pins s σ H v u Q I r q=>h pins s σ H v u Q I r (m _ _ _ _ q)
theorem PS.imp {X:Cx} {st:Stmt} {t t':TS} (h:PS X st t) (m: ∀ D σ H,t' D σ H->t D σ H):PS X st t':=fun pins s σ H D I q=>h pins s σ H D I (m _ _ _ q)
theorem PSs.imp {X:Cx} {st:List Stmt} {t t':TS} (h:PSs X st t) (m: ∀ D σ H,t' D σ H->t D σ H):PSs X st t':=fun pins s σ H D I q=>h pins s σ H D I (m _ _ _ q)
section
variable {X:Cx} {E:XE} {a b e:Expr} {es:List Expr} {pos:Pos} {fa fb:Sd->M D}
theorem te2 {K:W.Frag} {F:D->D->M D} {r:R2} (hr: ∀ x y H Q,zde K E F x y H Q->r x y H Q) (σ:St) (H:Hp) (Q:VK) (q:zeR K E (fun sd=>do let x<-fa sd;let y<-fb sd;F x y) σ H Q):tOp r (zeR K E fa) (zeR K E fb) σ H Q:=by
 obtain ⟨ι,h,sd,L,hh,q⟩:=q
 refine ⟨ι,h,sd,L,hh,Fin.bind q fun d1 h1 ι1 H1 e1 s1 hr1 q1 v r1=> ?_⟩
 refine ⟨ι1,h1,sd,L.step s1,hr1,Fin.bind q1 fun d2 h2 ι2 H2 e2 s2 hr2 q2 w r2=> ?_⟩
 exact hr _ _ _ _ ⟨ι2,h2,d1,d2,r1.step s2,r2,hr2,q2⟩
theorem zrR {op:Operator} {F:D->D->M D} (ho:OpR X (binaryOp op) (zde X.K E F)) (ha:SE X E a fa) (hb:SE X E b fb):SE X E (.BinOp a op b pos) (fun sd=>do let x<-fa sd;let y<-fb sd;F x y):=
 PE.imp (zqR ho ha hb) (te2 fun _ _ _ _ q=>q)
theorem zpH {op:CmpOp} {F:D->D->M D} (ho:OpR X (compareOp op) (zde X.K E F)) (ha:SE X E a fa) (hb:SE X E b fb) (hm:behindInMarks op b=false):SE X E (.Compare a [op] [b] pos) (fun sd=>do let x<-fa sd;let y<-fb sd;F x y):=
 PE.imp (zm5 ho ha hb hm) (te2 fun _ _ _ _ q=>q)
theorem zrq {F:D->D->M D} (ho:IxR X (zde X.K E F)) (ha:SE X E a fa) (hb:SE X E b fb) (hs:zgV b):SE X E (.Subscript a b pos) (fun sd=>do let x<-fa sd;let y<-fb sd;F x y):=
 PE.imp (zrG ho ha hb hs) (te2 fun _ _ _ _ q=>q)
noncomputable def zcB:D->M Bool
 | .bl b=>pure b
 | _=>M.bad
theorem ze1 {K:W.Frag} {f:Sd->M D} (σ:St) (H:Hp) (Q:Bool->Hp->Prop) (q:zeg K E (fun sd=>do let x<-f sd;zcB x) σ H Q):(zeR K E f) σ H fun x H1=> ∃ c,x= .bl c/\Q c H1:=by
 obtain ⟨ι,h,sd,L,hh,q⟩:=q
 refine ⟨ι,h,sd,L,hh,Fin.bind q fun d1 h1 ι1 H1 e1 s1 hr1 q2 v r1=> ?_⟩
 cases d1 with
 | bl b=>simp only [Rel] at r1;exact ⟨b,r1,Fin.out hr1 q2⟩
 | _=>exact qa0 q2
theorem zoS {op:CmpOp} {F:D->D->M D} (ho:OpR X (compareOp op) (zde X.K E F)) (ha:SE X E a fa) (hb:SE X E b fb) (hm:behindInMarks op b=false):
  ST X E (.Compare a [op] [b] pos) (fun sd=>do let z<-(do let x<-fa sd;let y<-fb sd;F x y);zcB z):=by
 refine PT.imp (znO ho ha hb hm) fun σ H Q q=> ?_
 have q1:=ze1 (f:=fun sd=>do let x<-fa sd;let y<-fb sd;F x y) σ H Q q
 exact te2 (fun _ _ _ _ q=>q) σ H _ q1
theorem zoC {f:Sd->M D} (h:SE X E e f) (he: ∀ whole,isTrue e X.env whole=(do let v<-whole;standAt e.pos;holding [v] (truthy v)):=by intro _;rfl):ST X E e (fun sd=>do let x<-f sd;zcB x):=
 PT.imp (zpK h he) fun σ H Q q=>ze1 σ H Q q
theorem zpu {t:Sd->M Bool} (ha:ST X E a t):ST X E (.UnaryOp .Not a pos) (fun sd=>do let c<-t sd;pure (!c)):=by
 refine PT.imp (zom ha) fun σ H Q ⟨ι,h,sd,L,hh,q⟩=>⟨ι,h,sd,L,hh,Fin.bind q fun c h1 ι1 H1 e1 s1 hr1 q1=> ?_⟩
 exact Fin.out hr1 q1
theorem zmJ {t:Sd->M Bool} (ha:ST X E a t):PW X (.BoolOp .And [a] pos) (zeg X.K E t):=pw_and1 ha
theorem zp7 {t:Sd->M Bool} (ha:ST X E a t):PW X (.BoolOp .Or [a] pos) (zeg X.K E t):=pw_or1 ha
theorem PW.imp {t t':TT} (h:PW X e t) (m: ∀ σ H Q,t' σ H Q->t σ H Q):PW X e t':=fun whole pins s σ H Q I q=>h whole pins s σ H Q I (m _ _ _ q)
theorem zoj {rest:List Expr} {t u:Sd->M Bool} (ha:ST X E a t) (hb:PW X (.BoolOp .And (b::rest) pos) (zeg X.K E u)):PW X (.BoolOp .And (a::b::rest) pos) (zeg X.K E fun sd=>do let c<-t sd;if c=true then u sd else pure false):=by
 refine PW.imp (pw_and ha hb) fun σ H Q ⟨ι,h,sd,L,hh,q⟩=>⟨ι,h,sd,L,hh,Fin.bind q fun c h1 ι1 H1 e1 s1 hr1 q1=> ?_⟩
 cases c with
 | true=>exact zmq ⟨ι1,h1,sd,L.step s1,hr1,q1⟩
 | false=>exact zms (Fin.out hr1 q1)
theorem zqL {rest:List Expr} {t u:Sd->M Bool} (ha:ST X E a t) (hb:PW X (.BoolOp .Or (b::rest) pos) (zeg X.K E u)):PW X (.BoolOp .Or (a::b::rest) pos) (zeg X.K E fun sd=>do let c<-t sd;if c=true then pure true else u sd):=by
 refine PW.imp (pw_or ha hb) fun σ H Q ⟨ι,h,sd,L,hh,q⟩=>⟨ι,h,sd,L,hh,Fin.bind q fun c h1 ι1 H1 e1 s1 hr1 q1=> ?_⟩
 cases c with
 | false=>exact zms ⟨ι1,h1,sd,L.step s1,hr1,q1⟩
 | true=>exact zmq (Fin.out hr1 q1)
theorem zne {op:BoolOp} {vs:List Expr} {t:Sd->M Bool} (h:PW X (.BoolOp op vs pos) (zeg X.K E t)):ST X E (.BoolOp op vs pos) t:=h.pt
theorem zpE {op:BoolOp} (h:SE X E a fa):SE X E (.BoolOp op [a] pos) fa:=zo5 h
theorem zoL {rest:List Expr} (ha:SE X E a fa) (hb:SE X E (.BoolOp .And (b::rest) pos) fb):SE X E (.BoolOp .And (a::b::rest) pos) (fun sd=>do let c<-(do let x<-fa sd;zcB x);if c=true then fb sd else pure (.bl false)):=by
 refine PE.imp (zpV ha hb) fun σ H Q ⟨ι,h,sd,L,hh,q⟩=> ?_
 have q1:=ze1 (K:=X.K) (E:=E) (f:=fa) σ H (fun c H1=>if c=true then zeR X.K E fb σ H1 Q else Q (.bl false) H1) ⟨ι,h,sd,L,hh,Fin.bind q fun c h1 ι1 H1 e1 s1 hr1 q1=> ?_⟩
 ·exact q1
 ·cases c with
  | true=>exact zmq ⟨ι1,h1,sd,L.step s1,hr1,q1⟩
  | false=>exact zms (Fin.out hr1 q1 _ (by simp [Rel]))
theorem zoy (ha:SE X E a fa):SE X E (.UnaryOp .Not a pos) (fun sd=>do let c<-(do let x<-fa sd;zcB x);pure (.bl (!c))):=by
 refine PE.imp (zpe ha) fun σ H Q ⟨ι,h,sd,L,hh,q⟩=> ?_
 have q1:=ze1 (K:=X.K) (E:=E) (f:=fa) σ H (fun c H1=>Q (.bl (!c)) H1) ⟨ι,h,sd,L,hh,Fin.bind q fun c h1 ι1 H1 e1 s1 hr1 q1=> ?_⟩
 ·exact q1
 ·exact Fin.out hr1 q1 _ (by simp [Rel])
noncomputable def zai (i:Nat):Sd->M D:=fun sd=>match sd[i]? with
 | some (some d)=>pure d
 | _=>M.bad
theorem zpb (i:Nat) {x:Str} (hN:X.N[i]? = some x) (hv:Vis X.env.scope x) (hd:(x==("__debug__":Str))=false:=by decide) (hcd:(x==("__classdict__":Str))=false:=by decide):SE X E (.Name x pos) (zai i):=by
 refine PE.imp (zmm hN hv hd hcd) fun σ H Q ⟨ι,h,sd,L,hh,q⟩=> ?_
 unfold zai at q
 cases e:sd[i]? with
 | none=>rw [e] at q;exact qa0 q
 | some o=>
  rw [e] at q
  cases o with
  | none=>exact qa0 q
  | some d=>
   obtain ⟨v,e1,r⟩:=L.2 i d e
   exact ⟨v,e1,Fin.out hh q v r⟩
theorem zfg {K:W.Frag} {d:D} {v:V} (r: ∀ ι H,Rel K ι H d v) (σ:St) (H:Hp) (Q:VK) (q:zeR K E (fun _=>pure d) σ H Q):tC v σ H Q:=by
 obtain ⟨ι,h,sd,L,hh,q⟩:=q
 exact Fin.out hh q v (r _ _)
theorem zp2 {i:Int} {j:Nat}:SE X E (.Constant (.int i) j pos) (fun _=>pure (.int i)):=PE.imp zpX (zfg fun _ _=>by simp [Rel])
theorem zq3 {i:Bool} {j:Nat}:SE X E (.Constant (.bool i) j pos) (fun _=>pure (.bl i)):=PE.imp zo9 (zfg fun _ _=>by simp [Rel])
theorem zoY {i:Str} {j:Nat}:SE X E (.Constant (.str i) j pos) (fun _=>pure (.str i)):=PE.imp zlV (zfg fun _ _=>by simp [Rel])
theorem zoD:SA X E [] (fun _=>pure []):=PA.imp zcj fun σ H Q ⟨ι,h,sd,L,hh,q⟩=>Fin.out hh q [] zal.nil
theorem znL {fs:Sd->M (List D)} (ha:SE X E e fa) (hr:SA X E es fs) (hs:starEach (e::es) X.env=(false,eval e X.env)::starEach es X.env:=by rfl):SA X E (e::es) (fun sd=>do let x<-fa sd;let r<-fs sd;pure (x::r)):=by
 refine PA.imp (za2 ha hr hs) fun σ H Q ⟨ι,h,sd,L,hh,q⟩=>⟨ι,h,sd,L,hh,Fin.bind q fun d h1 ι1 H1 e1 s1 hr1 q1 v rv=> ?_⟩
 refine ⟨ι1,h1,sd,L.step s1,hr1,Fin.bind q1 fun ds h2 ι2 H2 e2 s2 hr2 q2 vs rvs=> ?_⟩
 exact Fin.out hr2 q2 _ (zal.cons (rv.step s2) rvs)
end
theorem zaN.nin {K:W.Frag} {ι:Io} {H:Hp} {h:Hh} (hr:zaN K ι H h) {p:Addr} (hp:H p=none): ¬ι.Has p:=fun z=>by
 rcases z with z | z
 ·obtain ⟨n,hn⟩:=List.mem_iff_getElem?.mp z
  have hl:n<h.length:=by rw [hr.len];exact (qac.mp hn).1
  obtain ⟨o,e,_⟩:=hr.at_ n p h[n] hn (by simp [hl])
  rw [hp] at e
  cases e
 ·obtain ⟨⟨o,e⟩,_⟩:=hr.hidt p z
  rw [hp] at e
  cases e
theorem zaN.laidS {K:W.Frag} {ι:Io} {H:Hp} {h:Hh} (hr:zaN K ι H h) {p:Addr} {o:HO} (hp:H p=none):zaW ι H ι (upd H p o):=
 ⟨fun _ _ h=> .inl h,fun _ h=> .inl h,rfl,fun a ha=>zao fun z=>hr.nin hp (.inr (z▸ha)),fun b o' h _=>by rw [zao (zaB h hp)];exact h⟩
theorem zaN.laid {K:W.Frag} {ι:Io} {H:Hp} {h:Hh} {p:Addr} {o:HO} (hr:zaN K ι H h) (hp:H p=none):zaN K ι (upd H p o) h:=
 ⟨hr.len,hr.inj,fun n a c hn hc=>by
   obtain ⟨o',e2,e3⟩:=hr.at_ n a c hn hc
   exact ⟨o',by rw [zao (zaB e2 hp)];exact e2,e3.pass (hr.laidS hp).pass⟩,hr.dead,fun a ha=>⟨by rw [zao (show a≠p from fun z=>hr.nin hp (.inr (z▸ha)))];exact (hr.hidt a ha).1,(hr.hidt a ha).2⟩⟩
noncomputable def fits (n:Nat):M Unit:=if n<=sizeLine then pure () else M.bad
theorem Fin.fits {α:Type} {K:W.Frag} {E:XE} {ι:Io} {H:Hp} {n:Nat} {f:M α} {h:Hh} {P:α->Io->Hp->Prop} (q:Fin K E ι H ((do L3.fits n;f) h) P):n<=sizeLine/\Fin K E ι H (f h) P:=by
 have q':Fin K E ι H (M.bind (L3.fits n) (fun _=>f) h) P:=q
 unfold M.bind L3.fits at q'
 by_cases hn:n<=sizeLine
 ·rw [qa4 hn] at q'
  exact ⟨hn,q'⟩
 ·rw [qa5 hn] at q'
  exact qa0 q'
section
variable {X:Cx} {E:XE} {es:List Expr} {pos:Pos} {fs:Sd->M (List D)}
theorem zp6 {K:W.Frag} {ι:Io} {H:Hp} {h:Hh} {ds:List D} {vs:List V} {Q:VK} (hr:zaN K ι H h) (rl:zal K ι H ds vs) (q:Fin K E ι H ((pure (.tup ds):M D) h) fun d ι' H'=> ∀ v,Rel K ι' H' d v->Q v H') {p:Addr} (hp:H p=none):Q (.ref p) (upd H p (.tup vs)):=
 q ι _ (hr.laidS hp) (hr.laid hp) _ (by
   simp only [Rel]
   exact ⟨p,vs,rfl,⟨zau,hr.nin hp⟩,rl.step (hr.laidS hp)⟩)
theorem znH {K:W.Frag} {ι:Io} {H:Hp} {h:Hh} {ds:List D} {vs:List V} {Q:VK} (hr:zaN K ι H h) (rl:zal K ι H ds vs) (q:Fin K E ι H ((pure (.lst ds):M D) h) fun d ι' H'=> ∀ v,Rel K ι' H' d v->Q v H') {p:Addr} (hp:H p=none):Q (.ref p) (upd H p (.lst vs)):=
 q ι _ (hr.laidS hp) (hr.laid hp) _ (by
   simp only [Rel]
   exact ⟨p,vs,rfl,⟨zau,hr.nin hp⟩,rl.step (hr.laidS hp)⟩)
noncomputable def za7 (ds:List D):M D:=fun h=> .ok (.cel h.length) (h++[.lst ds])
theorem zqN {K:W.Frag} {ι:Io} {H:Hp} {h:Hh} {c0:C} {o0:HO} {Q:VK} (hr:zaN K ι H h) (co:CO K ι H c0 o0) (q:Fin K E ι H (.ok (.cel h.length) (h++[c0])) fun d ι' H'=> ∀ v,Rel K ι' H' d v->Q v H') {p:Addr} (hp:H p=none):Q (.ref p) (upd H p o0):=by
 have hlen:=hr.len
 have nh:=hr.nin hp
 have st:zaW ι H ⟨ι.c++[some p],ι.x⟩ (upd H p o0):=by
  refine ⟨fun n o h=> .inl ?_,fun a h=> ?_,rfl,fun a ha=>zao fun z=>nh (.inr (z▸ha)),fun b o' h _=>by rw [zao (zaB h hp)];exact h⟩
  ·show (ι.c++[some p])[n]? = _
   rw [qad (qac.mp h).1];exact h
  ·rcases qaK.mp h with h | h
   ·exact .inl h
   ·simp at h;subst h;exact .inr hp
 have at_: ∀ (n:Nat) (a:Addr),(ι.c++[some p])[n]? = some (some a)->(ι.c[n]? = some (some a))\/(n=ι.c.length/\a=p):=fun n a h=>by
  by_cases hl:n<ι.c.length
  ·rw [qad hl] at h;exact .inl h
  ·rw [qaa (by omega)] at h
   have:n - ι.c.length=0:=by
    cases z:n - ι.c.length with
    | zero=>rfl
    | succ k=>rw [z] at h;simp at h
   rw [this] at h
   simp at h
   exact .inr ⟨by omega,h.symm⟩
 refine q _ _ st ⟨?_,fun m n a h1 h2=> ?_,fun n a c h1 h2=> ?_,fun n h1=> ?_,fun a ha=>⟨?_,fun z=> ?_⟩⟩ _ ?_
 ·show (h++[c0]).length=(ι.c++[some p]).length
  rw [qav,qav,hlen];rfl
 ·rcases at_ m a h1 with z1 | ⟨z1,z1'⟩<;>rcases at_ n a h2 with z2 | ⟨z2,z2'⟩
  ·exact hr.inj m n a z1 z2
  ·subst z2';exact absurd (.inl (List.mem_of_getElem? z1)) nh
  ·subst z1';exact absurd (.inl (List.mem_of_getElem? z2)) nh
  ·rw [z1,z2]
 ·rcases at_ n a h1 with z1 | ⟨z1,z1'⟩
  ·rw [qad (by rw [hlen];exact (qac.mp z1).1)] at h2
   obtain ⟨o',e2,e3⟩:=hr.at_ n a c z1 h2
   exact ⟨o',by rw [zao (zaB e2 hp)];exact e2,e3.pass st.pass⟩
  ·subst z1 z1'
   rw [<- hlen,qaa (qaV _)] at h2
   simp at h2
   subst h2
   exact ⟨o0,zau,co.pass st.pass⟩
 ·have h1:(ι.c++[some p])[n]? = some none:=h1
  by_cases hl:n<ι.c.length
  ·rw [qad hl] at h1
   rw [qad (by rw [hlen];exact hl)]
   exact hr.dead n h1
  ·rw [qaa (by omega)] at h1
   cases z:n - ι.c.length with
   | zero=>rw [z] at h1;simp at h1
   | succ k=>rw [z] at h1;simp at h1
 ·rw [zao (show a≠p from fun z=>nh (.inr (z▸ha)))]
  exact (hr.hidt a ha).1
 ·rcases qaK.mp z with z | z
  ·exact (hr.hidt a ha).2 z
  ·simp at z;subst z;exact nh (.inr ha)
 ·simp only [Rel]
  refine ⟨p,rfl,.inl ?_⟩
  show (ι.c++[some p])[h.length]? = _
  rw [hlen,qaa (qaV _)]
  simp
theorem zsC {K:W.Frag} {ι:Io} {H:Hp} {h:Hh} {ds:List D} {vs:List V} {Q:VK} (hr:zaN K ι H h) (rl:zal K ι H ds vs) (q:Fin K E ι H (za7 ds h) fun d ι' H'=> ∀ v,Rel K ι' H' d v->Q v H') {p:Addr} (hp:H p=none):Q (.ref p) (upd H p (.lst vs)):=
 zqN hr (c0:= .lst ds) ⟨vs,rfl,rl⟩ q hp
theorem zp9 {x1} (h:SA X E es fs):SE X E (.Tuple es x1 pos) (fun sd=>do let ds<-fs sd;fits ds.length;pure (.tup ds)):=by
 refine PE.imp (zqk h) fun σ H Q ⟨ι,h,sd,L,hh,q⟩=>⟨ι,h,sd,L,hh,Fin.bind q fun ds h1 ι1 H1 e1 s1 hr1 q1 vs rvs=> ?_⟩
 obtain ⟨z,q2⟩:=Fin.fits q1
 exact ⟨by rw [<- rvs.length];exact z,fun p hp=>zp6 hr1 rvs q2 hp⟩
theorem zqc (h:SA X E es fs):SE X E (.List es pos) (fun sd=>do let ds<-fs sd;fits ds.length;pure (.lst ds)):=by
 refine PE.imp (zl5 h) fun σ H Q ⟨ι,h,sd,L,hh,q⟩=>⟨ι,h,sd,L,hh,Fin.bind q fun ds h1 ι1 H1 e1 s1 hr1 q1 vs rvs=> ?_⟩
 obtain ⟨z,q2⟩:=Fin.fits q1
 exact ⟨by rw [<- rvs.length];exact z,fun p hp=>znH hr1 rvs q2 hp⟩
theorem znK (h:SA X E es fs):SE X E (.List es pos) (fun sd=>do let ds<-fs sd;fits ds.length;za7 ds):=by
 refine PE.imp (zl5 h) fun σ H Q ⟨ι,h,sd,L,hh,q⟩=>⟨ι,h,sd,L,hh,Fin.bind q fun ds h1 ι1 H1 e1 s1 hr1 q1 vs rvs=> ?_⟩
 obtain ⟨z,q2⟩:=Fin.fits q1
 exact ⟨by rw [<- rvs.length];exact z,fun p hp=>zsC hr1 rvs q2 hp⟩
end
inductive Out where
 | nx (sd:Sd) | rt (d:D) | bk (sd:Sd) | ct (sd:Sd)
noncomputable def zh2 (K:W.Frag) (D0:zmk):Out->Io->Hp->Prop
 | .nx sd',ι',H'=> ∀ σ',zbu K ι' H' sd' σ'->D0.nx σ' H'
 | .rt d,ι',H'=> ∀ v,Rel K ι' H' d v->D0.rt v H'
 | .bk sd',ι',H'=> ∀ σ',zbu K ι' H' sd' σ'->D0.bk σ' H'
 | .ct sd',ι',H'=> ∀ σ',zbu K ι' H' sd' σ'->D0.ct σ' H'
noncomputable def zr1 (K:W.Frag) (E:XE) (G:Sd->M Out):TS:=fun D0 σ H=> ∃ ι h sd,zbu K ι H sd σ/\zaN K ι H h/\Fin K E ι H (G sd h) (zh2 K D0)
noncomputable abbrev SS (X:Cx) (E:XE) (st:Stmt) (G:Sd->M Out):Prop:=PS X st (zr1 X.K E G)
noncomputable abbrev SSs (X:Cx) (E:XE) (st:List Stmt) (G:Sd->M Out):Prop:=PSs X st (zr1 X.K E G)
noncomputable def andThen (o:Out) (g:Sd->M Out):M Out:=match o with
 | .nx sd=>g sd
 | o=>pure o
section
variable {X:Cx} {E:XE} {pos:Pos}
theorem zpF:SSs X E [] (fun sd=>pure (.nx sd)):=PSs.imp zmG fun D0 σ H ⟨ι,h,sd,L,hh,q⟩=>Fin.out hh q σ L
theorem zn8 {st:Stmt} {rest:List Stmt} {g g':Sd->M Out} (h1:SS X E st g) (h2:SSs X E rest g'):SSs X E (st::rest) (fun sd=>do let o<-g sd;andThen o g'):=by
 refine PSs.imp (zkZ h1 h2) fun D0 σ H ⟨ι,h,sd,L,hh,q⟩=>⟨ι,h,sd,L,hh,Fin.bind q fun o h1 ι1 H1 e1 s1 hr1 q1=> ?_⟩
 cases o with
 | nx sd'=>exact fun σ' L'=>⟨ι1,h1,sd',L',hr1,q1⟩
 | rt d=>exact Fin.out (E:=E) (P:=zh2 X.K D0) hr1 q1
 | bk sd'=>exact Fin.out (E:=E) (P:=zh2 X.K D0) hr1 q1
 | ct sd'=>exact Fin.out (E:=E) (P:=zh2 X.K D0) hr1 q1
theorem zou {st:Stmt} {g:Sd->M Out} (h1:SS X E st g):SSs X E [st] g:=zn0 h1
theorem zpA {e:Expr} {f:Sd->M D} (he:SE X E e f) (hs:swapsWith e none pos.line X.env=pure false:=by rfl):SS X E (.Expr e pos) (fun sd=>do let _<-f sd;pure (.nx sd)):=by
 refine PS.imp (zmB he hs) fun D0 σ H ⟨ι,h,sd,L,hh,q⟩=>⟨ι,h,sd,L,hh,Fin.bind q fun d h1 ι1 H1 e1 s1 hr1 q1 v rv=> ?_⟩
 exact Fin.out hr1 q1 σ (L.step s1)
theorem zrp {e:Expr} {f:Sd->M D} (he:SE X E e f):SS X E (.Return (some e) pos) (fun sd=>do let d<-f sd;pure (.rt d)):=by
 refine PS.imp (zp8 he) fun D0 σ H ⟨ι,h,sd,L,hh,q⟩=>⟨ι,h,sd,L,hh,Fin.bind q fun d h1 ι1 H1 e1 s1 hr1 q1 v rv=> ?_⟩
 exact Fin.out hr1 q1 v rv
theorem zsH {c:Expr} {a b:List Stmt} {t:Sd->M Bool} {g g':Sd->M Out} (hc:ST X E c t) (ha:SSs X E a g) (hb:SSs X E b g'):SS X E (.If c a b pos) (fun sd=>do let c<-t sd;if c=true then g sd else g' sd):=by
 refine PS.imp (zqX hc ha hb) fun D0 σ H ⟨ι,h,sd,L,hh,q⟩=>⟨ι,h,sd,L,hh,Fin.bind q fun c h1 ι1 H1 e1 s1 hr1 q1=> ?_⟩
 cases c with
 | true=>exact zmq ⟨ι1,h1,sd,L.step s1,hr1,q1⟩
 | false=>exact zms ⟨ι1,h1,sd,L.step s1,hr1,q1⟩
noncomputable def znv (K:W.Frag) (E:XE) (g:D->Sd->M Sd):TG:=fun v σ H Q=> ∃ ι h sd d,zbu K ι H sd σ/\zaN K ι H h/\Rel K ι H d v/\Fin K E ι H (g d sd h) fun sd' ι' H'=> ∀ σ',zbu K ι' H' sd' σ'->Q σ' H'
noncomputable def zru (K:W.Frag) (E:XE) (g:List D->Sd->M Sd):TGs:=fun vs σ H Q=> ∃ ι h sd ds,zbu K ι H sd σ/\zaN K ι H h/\zal K ι H ds vs/\Fin K E ι H (g ds sd h) fun sd' ι' H'=> ∀ σ',zbu K ι' H' sd' σ'->Q σ' H'
noncomputable abbrev SG (X:Cx) (E:XE) (tg:Expr) (g:D->Sd->M Sd):Prop:=PG X tg (znv X.K E g)
noncomputable abbrev SGs (X:Cx) (E:XE) (tgs:List Expr) (g:List D->Sd->M Sd):Prop:=PGs X tgs (zru X.K E g)
noncomputable def zaU (i:Nat):D->Sd->M Sd:=fun d sd=>pure (sd.set i (some d))
theorem zmX (i:Nat) {x:Str} (hN:X.N.Nodup) (hi:X.N[i]? = some x) (hx:Loc X.env.scope x) (hf:X.fn x=true\/X.env.scope.names.lookup x=some .local):SG X E (.Name x pos) (zaU i):=by
 refine PG.imp (znN hN hi hx hf) fun v σ H Q ⟨ι,h,sd,d,L,hh,r,q⟩=> ?_
 exact Fin.out hh q _ (L.set r i)
theorem PGs.imp {tgs:List Expr} {t t':TGs} (h:PGs X tgs t) (m: ∀ v σ H Q,t' v σ H Q->t v σ H Q):PGs X tgs t':=fun pins s σ H v u Q I r q=>h pins s σ H v u Q I r (m _ _ _ _ q)
noncomputable def zc2:List D->Sd->M Sd:=fun ds sd=>match ds with | []=>pure sd | _=>M.bad
noncomputable def zaP (g:D->Sd->M Sd) (gs:List D->Sd->M Sd):List D->Sd->M Sd:=fun ds sd=>match ds with
 | []=>M.bad
 | d::r=>do let sd1<-g d sd;gs r sd1
theorem znf:SGs X E [] zc2:=by
 refine PGs.imp zmM fun v σ H Q ⟨ι,h,sd,ds,L,hh,r,q⟩=> ?_
 cases ds with
 | nil=>simp only [zal] at r;exact ⟨r,Fin.out hh q _ L⟩
 | cons d r=>exact qa0 q
theorem zkF {e:Expr} {es:List Expr} {g:D->Sd->M Sd} {gs:List D->Sd->M Sd} (h1:SG X E e g) (h2:SGs X E es gs)
  (hs:(assignEach (e::es) X.env).map (·.2)=assign e X.env::(assignEach es X.env).map (·.2):=by rfl):SGs X E (e::es) (zaP g gs):=by
 refine PGs.imp (zlj h1 h2 hs) fun v σ H Q ⟨ι,h,sd,ds,L,hh,r,q⟩=> ?_
 cases ds with
 | nil=>exact qa0 q
 | cons d ds=>
  simp only [zal] at r
  obtain ⟨v1,vr,rfl,r1,r2⟩:=r
  refine ⟨v1,vr,rfl,ι,h,sd,d,L,hh,r1,Fin.bind q fun sd1 h1 ι1 H1 e1 s1 hr1 q1 σ1 L1=> ?_⟩
  exact ⟨ι1,h1,sd1,ds,L1,hr1,r2.step s1,q1⟩
noncomputable def zcV (n:Nat) (gs:List D->Sd->M Sd):D->Sd->M Sd:=fun d sd=>match d with
 | .tup ds=>if ds.length=n then gs ds sd else M.bad
 | _=>M.bad
theorem zck {K:W.Frag} {ι:Io} {H:Hp} {ds:List D} {v:V} (h:Rel K ι H (.tup ds) v): ∃ a vs,v= .ref a/\SqT K H a vs/\zal K ι H ds vs:=by
 simp only [Rel] at h
 obtain ⟨a,vs,e,h1,h2⟩:=h
 exact ⟨a,vs,e,.inl (.inl h1.1),h2⟩
theorem zjQ {K:W.Frag} {ι:Io} {H:Hp} {ds:List D} {v:V} (h:Rel K ι H (.scr ds) v): ∃ a vs,v= .ref a/\SqL K H a vs/\zal K ι H ds vs:=by
 simp only [Rel] at h
 obtain ⟨a,vs,e,h1,h2⟩:=h
 refine ⟨a,vs,e,?_,h2⟩
 rcases h1 with h1 | h1
 ·exact .inl h1.1
 ·rcases h1 with h1 | h1
  ·rcases h1 with h1 | ⟨o,h1⟩<;>cases h1
  ·exact .inr h1
theorem zc5 {K:W.Frag} {ι:Io} {H:Hp} {ds:List D} {v:V} (h:Rel K ι H (.lst ds) v): ∃ a vs,v= .ref a/\SqL K H a vs/\zal K ι H ds vs:=by
 simp only [Rel] at h
 obtain ⟨a,vs,e,h1,h2⟩:=h
 exact ⟨a,vs,e,.inl (.inl h1.1),h2⟩
theorem zpi {es:List Expr} {k:Nat} {gs:List D->Sd->M Sd} {n:Nat} (hc:X.calm=true) (h:SGs X E es gs)
  (hn:(assignEach es X.env).length=n:=by rfl) (hst:(assignEach es X.env).findIdx? (·.1)=none:=by rfl):SG X E (.Tuple es k pos) (zcV n gs):=by
 refine PG.imp (zpJ hc h hn hst) fun v σ H Q ⟨ι,h,sd,d,L,hh,r,q⟩=> ?_
 cases d with
 | tup ds=>
  obtain ⟨a,vs,e,h1,h2⟩:=zck r
  have q:Fin X.K E ι H ((if ds.length=n then gs ds sd else M.bad) h) _:=q
  by_cases hl:ds.length=n
  ·rw [qa4 hl] at q
   exact ⟨a,vs,e,h1,by rw [<- h2.length];exact hl,ι,h,sd,ds,L,hh,h2,q⟩
  ·rw [qa5 hl] at q
   exact qa0 q
 | _=>exact qa0 q
theorem zra {tg e:Expr} {f:Sd->M D} {g:D->Sd->M Sd} (he:SE X E e f) (hg:SG X E tg g) (hs:swapsWithSole [tg] e pos.line X.env=pure false:=by rfl) (hw:swappedStores [tg] e X.env=pure none:=by rfl)
  (h1:(assignEach [tg] X.env).map (·.2)=[assign tg X.env]:=by rfl):SS X E (.Assign [tg] e pos) (fun sd=>do let d<-f sd;let sd'<-g d sd;pure (.nx sd')):=by
 refine PS.imp (zpC he hg hs hw h1) fun D0 σ H ⟨ι,h,sd,L,hh,q⟩=>⟨ι,h,sd,L,hh,Fin.bind q fun d h1 ι1 H1 e1 s1 hr1 q1 v rv=> ?_⟩
 exact ⟨ι1,h1,sd,d,L.step s1,hr1,rv,Fin.bind q1 fun sd' h2 ι2 H2 e2 s2 hr2 q2=>Fin.out hr2 q2⟩
theorem zrL (i:Nat) {x:Str} {e:Expr} {f:Sd->M D} {pos':Pos} (hN:X.N.Nodup) (hi:X.N[i]? = some x) (hx:Loc X.env.scope x) (hf:X.fn x=true\/X.env.scope.names.lookup x=some .local) (he:SE X E e f) (hs:swapsWith e (some (.Name x pos')) pos.line X.env=pure false:=by rfl):
  SS X E (.Assign [.Name x pos'] e pos) (fun sd=>do let d<-f sd;pure (.nx (sd.set i (some d)))):=by
 refine PS.imp (zoN hN hi hx he hs hf) fun D0 σ H ⟨ι,h,sd,L,hh,q⟩=>⟨ι,h,sd,L,hh,Fin.bind q fun d h1 ι1 H1 e1 s1 hr1 q1 v rv=> ?_⟩
 exact Fin.out hr1 q1 _ ((L.step s1).set rv i)
def zrN (H H2:Hp):Prop:=H2=H\/ ∃ q vs,H q=none/\H2=upd H q (.tup vs)
theorem zrN.step {K:W.Frag} {ι:Io} {H H2:Hp} {h:Hh} (g:zrN H H2) (hr:zaN K ι H h):zaW ι H ι H2/\zaN K ι H2 h:=by
 rcases g with e | ⟨q,vs,hq,e⟩
 ·subst e;exact ⟨zaW.refl _ _,hr⟩
 ·subst e;exact ⟨hr.laidS hq,hr.laid hq⟩
structure zog (K:W.Frag) (ι:Io) (H:Hp) (J:It) (ds:List D):Prop where
 go: ∀ ι' H' (i:Nat),Pass ι H ι' H'->i<ds.length->J.go i H'
 yld: ∀ ι' H' h (i:Nat) x H2,Pass ι H ι' H'->zaN K ι' H' h->i<ds.length->J.yld i H' x H2->zrN H' H2/\ ∃ d,ds[i]? = some d/\Rel K ι' H2 d x
 stop: ∀ ι' H',Pass ι H ι' H'->J.stop ds.length H'
noncomputable def zqH (K:W.Frag) (E:XE) (f:Sd->M (List D)):TI:=fun σ H Q=> ∃ ι h sd,zbu K ι H sd σ/\zaN K ι H h/\Fin K E ι H (f sd h) fun ds ι' H'=> ∀ J,zog K ι' H' J ds->Q J H'
noncomputable abbrev SI (X:Cx) (E:XE) (tg iter:Expr) (f:Sd->M (List D)):Prop:=PI X tg iter (zqH X.K E f)
noncomputable def zd7:D->M (List D)
 | .tup ds=>pure ds
 | .lst ds=>pure ds
 | _=>M.bad
theorem zkQ {K:W.Frag} {ι:Io} {H:Hp} {a:Addr} {vs:List V} {ds:List D} (h: ∀ ι' H',Pass ι H ι' H'->SqT K H' a vs) (rl:zal K ι H ds vs):zog K ι H (Itt K a) ds where
 go:=fun ι' H' i s hi=>⟨vs,vs[i]'(by rw [<- rl.length];exact hi),h ι' H' s,by simp⟩
 yld:=fun ι' H' _ i x H2 s _ hi ⟨e,y⟩=>by
  subst e
  have hx:=y vs (h ι' _ s)
  obtain ⟨d,e1,e2⟩:=rl.getV hx
  exact ⟨.inl rfl,d,e1,e2.pass s⟩
 stop:=fun ι' H' s=>⟨vs,h ι' H' s,by rw [rl.length];exact qaV _⟩
theorem zkx {K:W.Frag} {ι:Io} {H:Hp} {a:Addr} {vs:List V} {ds:List D} (h: ∀ ι' H',Pass ι H ι' H'->SqL K H' a vs) (rl:zal K ι H ds vs):zog K ι H (Itl K a) ds where
 go:=fun ι' H' i s hi=>⟨vs,vs[i]'(by rw [<- rl.length];exact hi),h ι' H' s,by simp⟩
 yld:=fun ι' H' _ i x H2 s _ hi ⟨e,y⟩=>by
  subst e
  have hx:=y vs (h ι' _ s)
  obtain ⟨d,e1,e2⟩:=rl.getV hx
  exact ⟨.inl rfl,d,e1,e2.pass s⟩
 stop:=fun ι' H' s=>⟨vs,h ι' H' s,by rw [rl.length];exact qaV _⟩
theorem Pass.refl (ι:Io) (H:Hp):Pass ι H ι H:=(zaW.refl ι H).pass
theorem zn3 {K:W.Frag} {ι:Io} {H:Hp} {ds:List D} {v:V} (h:Rel K ι H (.tup ds) v): ∃ a vs,v= .ref a/\(∀ ι' H',Pass ι H ι' H'->SqT K H' a vs)/\zal K ι H ds vs:=by
 simp only [Rel] at h
 obtain ⟨a,vs,e,h1,h2⟩:=h
 exact ⟨a,vs,e,fun ι' H' s=> .inl (.inl (s.keep _ _ h1.1 h1.2).1),h2⟩
theorem znu {K:W.Frag} {ι:Io} {H:Hp} {ds:List D} {v:V} (h:Rel K ι H (.lst ds) v): ∃ a vs,v= .ref a/\(∀ ι' H',Pass ι H ι' H'->SqL K H' a vs)/\zal K ι H ds vs:=by
 simp only [Rel] at h
 obtain ⟨a,vs,e,h1,h2⟩:=h
 exact ⟨a,vs,e,fun ι' H' s=> .inl (.inl (s.keep _ _ h1.1 h1.2).1),h2⟩
end
end L3
namespace L2
open PySem PySem.Spec PyProof.Rows
noncomputable def zrY (K:W.Frag) (tl:TE):TI:=fun σ H R=>tl σ H fun x H1=> ∃ a,x= .ref a/\(((∃ xs,SqL K H1 a xs)/\R (Itl K a) H1)\/((∃ xs,SqT K H1 a xs)/\R (Itt K a) H1))
theorem zlI {X:Cx} {tg:Expr} {l:Expr} {tl:TE} (hl:PE X l tl):PI X tg l (zrY X.K tl):=by
 intro pins s σ H R I h
 refine thn (hl pins s σ H _ I h) fun v s1 ⟨x,H1,I1,r1,q1⟩=> ?_
 obtain ⟨a,e,⟨⟨xs,hq⟩,q⟩ | ⟨⟨xs,hq⟩,q⟩⟩:=q1
 ·subst e
  cases r1
  obtain ⟨its,rv,p,hz⟩:=I1.list hq
  refine wpAny_pyIter_list p.isList ?_
  refine ⟨s1.heap.objs.size,[s1.heap.objs.size],_,_,H1,rfl,I1.kept (t':=s1.toks) fun b o e=>qag _ e,ziG a _,⟨_,qar _ rfl,rfl,rfl⟩,fun b hb=> ?_,q⟩
  have e:b=s1.heap.objs.size:=by simpa using hb
  subst e
  exact I1.fpOk (qaV _) (I1.hok.fresh (qaV _))
 ·subst e
  cases r1
  obtain ⟨its,rv,p,hz⟩:=I1.tuple hq
  refine wpAny_pyIter_tuple (show s1.heap.IsTuple a its.toArray from p) ?_
  refine ⟨s1.heap.objs.size,[s1.heap.objs.size],_,_,H1,rfl,I1.kept (t':=s1.toks) fun b o e=>qag _ e,zhS a _,⟨_,qar _ rfl,rfl,rfl⟩,fun b hb=> ?_,q⟩
  have e:b=s1.heap.objs.size:=by simpa using hb
  subst e
  exact I1.fpOk (qaV _) (I1.hok.fresh (qaV _))
end L2
namespace L3
open PySem PySem.Spec PyProof.Rows L2
section
variable {X:Cx} {E:XE} {pos:Pos}
theorem zo3 {tg e:Expr} {f:Sd->M D} (he:SE X E e f):SI X E tg e (fun sd=>do let d<-f sd;zd7 d):=by
 refine PI.imp (zlI he) fun σ H Q ⟨ι,h,sd,L,hh,q⟩=>⟨ι,h,sd,L,hh,Fin.bind q fun d h1 ι1 H1 e1 s1 hr1 q1 v rv=> ?_⟩
 cases d with
 | lst ds=>
  obtain ⟨a,vs,e,h1',h2⟩:=znu rv
  exact ⟨a,e,.inl ⟨⟨vs,h1' _ _ (Pass.refl _ _)⟩,Fin.out hr1 q1 _ (zkx h1' h2)⟩⟩
 | tup ds=>
  obtain ⟨a,vs,e,h1',h2⟩:=zn3 rv
  exact ⟨a,e,.inr ⟨⟨vs,h1' _ _ (Pass.refl _ _)⟩,Fin.out hr1 q1 _ (zkQ h1' h2)⟩⟩
 | _=>exact qa0 q1
noncomputable def zcM (lo:Int) (n:Nat):List D:=(List.range n).map fun (k:Nat)=>D.int (lo+(k:Int))
theorem zk4 {K:W.Frag} {ι:Io} {H:Hp} {lo:Int} {n:Nat}:zog K ι H (Itr lo n) (zcM lo n) where
 go:=fun ι' H' i s hi=>by show i<n;simpa [zcM] using hi
 yld:=fun ι' H' _ i x H2 s _ hi ⟨e,y⟩=>by
  subst e y
  have hi:i<n:=by simpa [zcM] using hi
  refine ⟨.inl rfl,.int (lo+i),?_,by simp [Rel]⟩
  simp [zcM,hi]
 stop:=fun ι' H' s=>by
  show n<=(zcM lo n).length
  simp [zcM]
noncomputable def zcL (j:Int):Bool:=decide (-(2^62)<=j) && decide (j<2^62)
noncomputable def ziE:List D->M (List D)
 | [.int j]=>if zcL j=true then pure (zcM 0 j.toNat) else M.bad
 | _=>M.bad
theorem zd9 {j:Int} (h:zcL j=true): -(2^62)<=j/\j<2^62:=by
 unfold zcL at h
 simpa using h
theorem znR {tg a:Expr} {p:Pos} {fs:Sd->M (List D)} (hg:Gl X "range") (hm:X.mg "range"=none) (ha:SA X E [a] fs) (hs:starEach [a] X.env=[(false,eval a X.env)]:=by rfl):
  SI X E tg (.Call (.Name "range" p) [a] [] pos) (fun sd=>do let ds<-fs sd;ziE ds):=by
 refine PI.imp (ziX hg hm ha hs) fun σ H Q ⟨ι,h,sd,L,hh,q⟩=>⟨ι,h,sd,L,hh,Fin.bind q fun ds h1 ι1 H1 e1 s1 hr1 q1 vs rv=> ?_⟩
 match ds,rv,q1 with
 | [.int j],rv,q1=>
  simp only [zal,Rel] at rv
  obtain ⟨v,r,rfl,rfl,rfl⟩:=rv
  have q1:Fin X.K E ι1 H1 ((if zcL j=true then (pure (zcM 0 j.toNat):M (List D)) else M.bad) h1) _:=q1
  by_cases hj:zcL j=true
  ·rw [qa4 hj] at q1
   exact ⟨j,rfl,(zd9 hj).1,(zd9 hj).2,Fin.out hr1 q1 _ zk4⟩
  ·rw [qa5 hj] at q1
   exact qa0 q1
 | [],_,q1=>exact qa0 q1
 | .non::_,_,q1=>exact qa0 q1
 | .bl _::_,_,q1=>exact qa0 q1
 | .str _::_,_,q1=>exact qa0 q1
 | .tup _::_,_,q1=>exact qa0 q1
 | .lst _::_,_,q1=>exact qa0 q1
 | .cel _::_,_,q1=>exact qa0 q1
 | .set _::_,_,q1=>exact qa0 q1
 | .dct::_,_,q1=>exact qa0 q1
 | .fn _::_,_,q1=>exact qa0 q1
 | .scr _::_,_,q1=>exact qa0 q1
 | .exn _::_,_,q1=>exact qa0 q1
 | .int _::_::_,_,q1=>exact qa0 q1
noncomputable def za3 (body:D->Sd->M Out):List D->Sd->M Out
 | [],sd=>pure (.nx sd)
 | x::r,sd=>do
  let o<-body x sd
  match o with
  | .nx sd'=>za3 body r sd'
  | .ct sd'=>za3 body r sd'
  | .bk sd'=>pure (.nx sd')
  | .rt d=>pure (.rt d)
theorem zrs {tg iter:Expr} {body:List Stmt} {fi:Sd->M (List D)} {g:D->Sd->M Sd} {gb:Sd->M Out} (hc:X.calm=true) (hp:PassesOwn (model X.prog X.w) X.A X.env X.xe) (hi:SI X E tg iter fi) (hg:SG X E tg g) (hb:SSs X E body gb)
  (hs: ∀ x,foldedSetIterable iter X.env x=pure x:=by intro _;rfl):SS X E (.For tg iter body [] pos) (fun sd=>do let ds<-fi sd;za3 (fun x sd=>do let sd1<-g x sd;gb sd1) ds sd):=by
 refine PS.imp (zos hp hc hi hg hb hs) fun D0 σ H ⟨ι,h,sd,L,hh,q⟩=>⟨ι,h,sd,L,hh,Fin.bind q fun ds h1 ι1 H1 e1 s1 hr1 q1 J ok=> ?_⟩
 refine ⟨fun i m σ' H'=>m=ds.length - i/\i<=ds.length/\ ∃ ι' h' sd',zaW ι1 H1 ι' H'/\zbu X.K ι' H' sd' σ'/\zaN X.K ι' H' h'/\Fin X.K E ι' H' (za3 (fun x sd=>do let sd1<-g x sd;gb sd1) (ds.drop i) sd' h') (zh2 X.K D0),
   ⟨_,rfl,Nat.zero_le _,ι1,h1,sd,zaW.refl _ _,L.step s1,hr1,by simpa using q1⟩,?_⟩
 rintro i m σ2 H2 ⟨rfl,hi2,ι2,h2,sd2,s2,L2,hr2,q2⟩
 by_cases hlt:i<ds.length
 ·right
  refine ⟨ok.go ι2 H2 i s2.pass hlt,fun σ' H'=>i+1<=ds.length/\ ∃ ι' h' sd',zaW ι1 H1 ι' H'/\zbu X.K ι' H' sd' σ'/\zaN X.K ι' H' h'/\Fin X.K E ι' H' (za3 (fun x sd=>do let sd1<-g x sd;gb sd1) (ds.drop (i+1)) sd' h') (zh2 X.K D0),
    fun σ' H' p=>⟨ds.length - (i+1),by omega,rfl,p.1,p.2⟩,fun x H3 y=> ?_⟩
  obtain ⟨gr,d,ed,rd⟩:=ok.yld ι2 H2 h2 i x H3 s2.pass hr2 hlt y
  obtain ⟨s3,hr3⟩:=gr.step hr2
  have edr:ds.drop i=d::ds.drop (i+1):=by
   rw [qae hlt]
   rw [qaf hlt] at ed
   rw [Option.some.inj ed]
  rw [edr] at q2
  have q3:Fin X.K E ι2 H3 (za3 (fun x sd=>do let sd1<-g x sd;gb sd1) (d::ds.drop (i+1)) sd2 h2) (zh2 X.K D0):=Fin.step s3 q2
  refine ⟨ι2,h2,sd2,d,L2.step s3,hr3,rd,?_⟩
  have q5:Fin X.K E ι2 H3 ((g d sd2>>=fun sd1=>(gb sd1>>=fun o=>(match o with
    | .nx sd'=>za3 (fun x sd=>do let sd1<-g x sd;gb sd1) (ds.drop (i+1)) sd'
    | .ct sd'=>za3 (fun x sd=>do let sd1<-g x sd;gb sd1) (ds.drop (i+1)) sd'
    | .bk sd'=>pure (.nx sd')
    | .rt d=>pure (.rt d):M Out))) h2) (zh2 X.K D0):=by
   have e:(za3 (fun x sd=>do let sd1<-g x sd;gb sd1) (d::ds.drop (i+1)) sd2 h2)=((g d sd2>>=fun sd1=>(gb sd1>>=fun o=>(match o with
     | .nx sd'=>za3 (fun x sd=>do let sd1<-g x sd;gb sd1) (ds.drop (i+1)) sd'
     | .ct sd'=>za3 (fun x sd=>do let sd1<-g x sd;gb sd1) (ds.drop (i+1)) sd'
     | .bk sd'=>pure (.nx sd')
     | .rt d=>pure (.rt d):M Out))) h2):=by
    show M.bind (M.bind (g d sd2) gb) _ h2=M.bind (g d sd2) _ h2
    unfold M.bind
    cases g d sd2 h2<;>rfl
   rw [<- e]
   exact q3
  refine Fin.bind q5 fun sd6 h6 ι6 H6 e6 s6 hr6 q6 σ6 L6=> ?_
  refine ⟨ι6,h6,sd6,L6,hr6,Fin.bind q6 fun o h7 ι7 H7 e7 s7 hr7 q7=> ?_⟩
  have st7:zaW ι1 H1 ι7 H7:=((s2.trans s3).trans s6).trans s7
  cases o with
  | nx sd'=>exact fun σ' L'=>⟨hlt,ι7,h7,sd',st7,L',hr7,q7⟩
  | ct sd'=>exact fun σ' L'=>⟨hlt,ι7,h7,sd',st7,L',hr7,q7⟩
  | bk sd'=>exact fun σ' L'=>Fin.out (E:=E) (P:=zh2 X.K D0) hr7 q7 σ' L'
  | rt d=>exact fun v rv=>Fin.out (E:=E) (P:=zh2 X.K D0) hr7 q7 v rv
 ·left
  have e:i=ds.length:=by omega
  subst e
  refine ⟨ok.stop ι2 H2 s2.pass,?_⟩
  rw [List.drop_length] at q2
  exact Fin.out (E:=E) (P:=zh2 X.K D0) hr2 q2 σ2 L2
noncomputable def za1 (f:D->M (Option D)):List D->M (List D)
 | []=>pure []
 | x::r=>do
  let o<-f x
  let ys<-za1 f r
  pure (match o with | some y=>y::ys | none=>ys)
noncomputable def zaH (g:D->Sd->M Sd) (tc:Sd->M Bool) (te:Sd->M D) (sd:Sd) (x:D):M (Option D):=do
 let sd1<-g x sd
 let c<-tc sd1
 if c=true then do
  let y<-te sd1
  pure (some y)
 else pure none
end
noncomputable def Io.hide (ι:Io) (p:Addr):Io:=⟨ι.c,p::ι.x⟩
noncomputable def Io.show (ι:Io):Io:=⟨ι.c,ι.x.tail⟩
theorem zkv {ι:Io} {a:Addr} (h:ι.show.Has a):ι.Has a:=h.imp id List.mem_of_mem_tail
section
variable {K:W.Frag} {ι ι':Io} {H H':Hp} {p:Addr} {o:HO} {h:Hh}
theorem zda (hp:H p=none):Pass ι H (ι.hide p) (upd H p o):=⟨fun _ _ z=> .inl z,fun b o' hb n=>⟨by rw [zao (zaB hb hp)];exact hb,fun z=>by
  rcases z with z | z
  · exact n (.inl z)
  · rcases qaP.mp z with z | z
    · rw [z,hp] at hb;cases hb
    · exact n (.inr z)⟩⟩
theorem zdP:Pass ι H ι.show H:=⟨fun _ _ z=> .inl z,fun b o' hb n=>⟨hb,fun z=>n (zkv z)⟩⟩
theorem zcd (hp:p∈ι.x):Pass ι H ι (upd H p o):=⟨fun _ _ z=> .inl z,fun b o' hb n=>⟨by rw [zao (show b≠p from fun z=>n (.inr (z▸hp)))];exact hb,n⟩⟩
theorem zaN.hide (hr:zaN K ι H h) (hp:H p=none):zaN K (ι.hide p) (upd H p o) h:=
 ⟨hr.len,hr.inj,fun n a c h1 h2=>by
   obtain ⟨o',e2,e3⟩:=hr.at_ n a c h1 h2
   exact ⟨o',by rw [zao (zaB e2 hp)];exact e2,e3.pass (zda hp)⟩,hr.dead,fun a ha=>by
   rcases qaP.mp ha with z | z
   · subst z;exact ⟨⟨o,zau⟩,fun z=>hr.nin hp (.inl z)⟩
   · refine ⟨?_,(hr.hidt a z).2⟩
     rw [zao (show a≠p from fun w=>hr.nin hp (.inr (w▸z)))]
     exact (hr.hidt a z).1⟩
theorem zaN.hid (hr:zaN K ι H h) (hp:p∈ι.x):zaN K ι (upd H p o) h:=
 ⟨hr.len,hr.inj,fun n a c h1 h2=>by
   obtain ⟨o',e2,e3⟩:=hr.at_ n a c h1 h2
   have ne:a≠p:=fun z=>(hr.hidt p hp).2 (z▸List.mem_of_getElem? h1)
   exact ⟨o',by rw [zao ne];exact e2,e3.pass (zcd hp)⟩,hr.dead,fun a ha=>by
   refine ⟨?_,(hr.hidt a ha).2⟩
   by_cases z:a=p
   · subst z;exact ⟨o,zau⟩
   · rw [zao z];exact (hr.hidt a ha).1⟩
theorem zaN.show (hr:zaN K ι H h):zaN K ι.show H h:=
 ⟨hr.len,hr.inj,fun n a c h1 h2=>by
   obtain ⟨o',e2,e3⟩:=hr.at_ n a c h1 h2
   exact ⟨o',e2,e3.pass zdP⟩,hr.dead,fun a ha=>hr.hidt a (List.mem_of_mem_tail ha)⟩
theorem zem {ι1 ι2:Io} {H1 H2:Hp} (hp:H p=none) (hpx:p∉ι.x) (hx:ι1.x=p::ι.x) (s:zaW ι H ι1.show H1) (t:zaW ι1 H1 ι2 H2):zaW ι H ι2.show (upd H2 p o) where
 old:=fun n q h=>by
  rcases s.old n q h with h | h
  ·exact t.old n q h
  ·rcases t.old n _ h with h | h<;>exact .inr h
 new:=fun a h=>by
  rcases t.new a h with h | h
  ·exact s.new a h
  ·by_cases z:some a∈ι.c
   ·exact .inl z
   ·refine .inr ?_
    cases q:H a with
    | none=>rfl
    | some o=>
     by_cases z':a∈ι.x
     ·rw [s.hidk a z',q] at h;cases h
     ·rw [s.keep a o q (fun w=>w.elim z z')] at h;cases h
 hid:=by
  show ι2.x.tail=ι.x
  rw [t.hid,hx]
  rfl
 hidk:=fun a ha=>by
  have z:a≠p:=fun z=>hpx (z▸ha)
  rw [zao z,t.hidk a (by rw [hx];exact qan _ ha)]
  exact s.hidk a ha
 keep:=fun b q hb n=>by
  have ne:b≠p:=zaB hb hp
  rw [zao ne]
  refine t.keep b q (s.keep b q hb n) fun z=> ?_
  rcases z with z | z
  ·rcases s.new b z with z | z
   ·exact n (.inl z)
   ·rw [hb] at z;cases z
  ·rw [hx] at z
   rcases qaP.mp z with z | z
   ·exact ne z
   ·exact n (.inr z)
theorem zaW.shown {ι2:Io} {H2:Hp} {r:List Addr} (hx:ι.x=p::r) (t:zaW ι H ι2 H2):zaW ι.show H ι2.show H2 where
 old:=t.old
 new:=t.new
 hid:=by show ι2.x.tail=ι.x.tail;rw [t.hid]
 hidk:=fun a ha=>t.hidk a (List.mem_of_mem_tail ha)
 keep:=fun b q hb n=>by
  by_cases z:b=p
  ·subst z
   rw [t.hidk b (by rw [hx];exact qau)]
   exact hb
  ·refine t.keep b q hb fun w=> ?_
   rcases w with w | w
   ·exact n (.inl w)
   ·rw [hx] at w
    rcases qaP.mp w with w | w
    ·exact z w
    ·exact n (.inr (by show b∈ι.x.tail;rw [hx];exact w))
theorem Fin.bindB {α β:Type} {E:XE} {m:M α} {f:α->M β} {P:β->Io->Hp->Prop} {P':α->Io->Hp->Prop} {ιb:Io} {Hb:Hp} (q:Fin K E ιb Hb ((m>>=f) h) P)
  (conv: ∀ ι' H' h',zaW ι H ι' H'->zaN K ι' H' h'-> ∃ ι'',zaW ιb Hb ι'' H'/\zaN K ι'' H' h')
  (k: ∀ a h' ι' H',m h= .ok a h'->zaW ι H ι' H'->zaN K ι' H' h'->Fin K E ιb Hb (f a h') P->P' a ι' H'):Fin K E ι H (m h) P':=by
 have q':Fin K E ιb Hb (M.bind m f h) P:=q
 unfold M.bind at q'
 cases e:m h with
 | ok a h'=>
  rw [e] at q'
  intro ι' H' s hr
  exact k a h' ι' H' e s hr q'
 | exc c h'=>
  rw [e] at q'
  intro ι' H' s hr
  obtain ⟨ι'',s2,hr2⟩:=conv ι' H' h' s hr
  exact q' _ _ s2 hr2
 | bad=>rw [e] at q';exact q'
end
noncomputable instance:LawfulMonad M:=LawfulMonad.mk' M
 (id_map:=fun x=>by
   funext h
   show M.bind x (fun a=>M.pure (id a)) h=x h
   unfold M.bind M.pure
   cases x h<;>rfl)
 (pure_bind:=fun x f=>rfl)
 (bind_assoc:=fun x f g=>by
   funext h
   show M.bind (M.bind x f) g h=M.bind x (fun a=>M.bind (f a) g) h
   unfold M.bind
   cases x h<;>rfl)
noncomputable def zae (src:List (Option Nat)) (sd:Sd):Sd:=src.map fun o=>o.bind fun i=>(sd[i]?).join
theorem zbu.bStart {K:W.Frag} {ι:Io} {H:Hp} {sd:Sd} {σ:L2.St} {src:List (Option Nat)} (h:zbu K ι H sd σ):zbu K ι H (zae src sd) (bStart src σ):=by
 refine ⟨by unfold zae L2.bStart;rw [qaH,qaH],fun i d e=> ?_⟩
 unfold zae at e
 unfold L2.bStart
 rw [List.getElem?_map] at e ⊢
 cases z:src[i]? with
 | none=>rw [z] at e;cases e
 | some o=>
  rw [z] at e
  cases o with
  | none=>cases e
  | some j=>
   have e:(sd[j]?).join=some d:=by simpa using e
   cases w:sd[j]? with
   | none=>rw [w] at e;cases e
   | some q=>
    rw [w] at e
    have e:q=some d:=by simpa using e
    subst e
    obtain ⟨v,h1,h2⟩:=h.2 j d w
    exact ⟨v,by simp [h1],h2⟩
def zat (g:D->Sd->M Sd) (src:List (Option Nat)):Prop:= ∀ x sd h sd1 h1,sd.length=src.length->(∀ (i:Nat),src[i]? = some none->sd[i]? = some none)->g x sd h= .ok sd1 h1->sd1.length=sd.length/\ ∀ (i:Nat) d,src[i]? ≠ some none->sd[i]? = some (some d)->sd1[i]? = some (some d)
def zaO (g:List D->Sd->M Sd) (src:List (Option Nat)):Prop:= ∀ x sd h sd1 h1,g x sd h= .ok sd1 h1->sd1.length=sd.length/\ ∀ (i:Nat) d,src[i]? ≠ some none->sd[i]? = some (some d)->sd1[i]? = some (some d)
theorem zjn {i:Nat} {src:List (Option Nat)} (h:src[i]? = some none): ∀ x sd h sd1 h1,zaU i x sd h= .ok sd1 h1->sd1.length=sd.length/\ ∀ (j:Nat) d,src[j]? ≠ some none->sd[j]? = some (some d)->sd1[j]? = some (some d):=fun x sd h0 sd1 h1 e=>by
 have e:R.ok (sd.set i (some x)) h0= .ok sd1 h1:=e
 cases e
 refine ⟨qaI,fun j d hj e=> ?_⟩
 rw [qao (show i≠j from fun z=>hj (z▸h))]
 exact e
theorem zat.name {i:Nat} {src:List (Option Nat)} (h:src[i]? = some none):zat (zaU i) src:=fun x sd h0 sd1 h1 _ _ e=>zjn h x sd h0 sd1 h1 e
theorem zaO.nil {src:List (Option Nat)}:zaO zc2 src:=fun x sd h sd1 h1 e=>by
 cases x with
 | nil=>
  have e:R.ok sd h= .ok sd1 h1:=e
  cases e
  exact ⟨rfl,fun _ _ _ z=>z⟩
 | cons _ _=>cases (show R.bad=R.ok sd1 h1 from e)
theorem zaO.cons {i:Nat} {gs:List D->Sd->M Sd} {src:List (Option Nat)} (h:src[i]? = some none) (t:zaO gs src):zaO (zaP (zaU i) gs) src:=fun x sd h0 sd1 h1 e=>by
 cases x with
 | nil=>cases (show R.bad=R.ok sd1 h1 from e)
 | cons d r=>
  have e:gs r (sd.set i (some d)) h0= .ok sd1 h1:=e
  obtain ⟨e1,e2⟩:=t r _ h0 sd1 h1 e
  refine ⟨by rw [e1,qaI],fun j d' hj z=>e2 j d' hj ?_⟩
  rw [qao (show i≠j from fun z=>hj (z▸h))]
  exact z
theorem zat.tup {n:Nat} {gs:List D->Sd->M Sd} {src:List (Option Nat)} (t:zaO gs src):zat (zcV n gs) src:=fun x sd h0 sd1 h1 _ _ e=>by
 cases x with
 | tup ds=>
  have e:(if ds.length=n then gs ds sd else M.bad) h0= .ok sd1 h1:=e
  by_cases hl:ds.length=n
  ·rw [qa4 hl] at e;exact t _ _ _ _ _ e
  ·rw [qa5 hl] at e;cases (show R.bad=R.ok sd1 h1 from e)
 | _=>cases (show R.bad=R.ok sd1 h1 from e)
section
variable {X:Cx} {E:XE} {scope:Scope} {N:List Str} {src:List (Option Nat)} {tg iter elt:Expr} {ifs:List Expr} {pos:Pos}
noncomputable abbrev SCs (X:Cx) (E:XE) (ifs:List Expr) (t:Sd->M Bool):Prop:=PCs X ifs (zeg X.K E t)
theorem zpo:SCs X E [] (fun _=>pure true):=fun pins s σ H Q I ⟨ι,h,sd,L,hh,q⟩=>zm3 pins s σ H Q I (Fin.out hh q)
theorem zov {c:Expr} {t:Sd->M Bool} (h:ST X E c t):SCs X E [c] t:=znr h
theorem blk {K:W.Frag} {g:D->Sd->M Sd} {tc:Sd->M Bool} {te:Sd->M D} {J:It} {ds:List D} {ι:Io} {H:Hp} {h:Hh} {sd:Sd} {σ:L2.St} {Q:VK} {p:Addr} (hk:zat g src) (L:zbu K ι H sd σ) (hr:zaN K ι H h) (ok:zog K ι H J ds) (hz:ds.length<=sizeLine)
  (q:Fin K E ι H ((do let ys<-za1 (zaH g tc te (zae src sd)) ds;pure (D.lst ys)) h) fun d ι' H'=> ∀ v,Rel K ι' H' d v->Q v H') (hp:H p=none):
  zo2 J (znv K E g) (zeg K E tc) (zeR K E te) (bStart src σ) H p fun H'=>Q (.ref p) H':=by
 generalize hP:(fun (d:D) (ι':Io) (H':Hp)=> ∀ v,Rel K ι' H' d v->Q v H')=P at q
 generalize hf:zaH g tc te (zae src sd)=f at q
 have hpx:p∉ι.x:=fun z=>hr.nin hp (.inr z)
 have h0len:(zae src sd).length=src.length:=by unfold zae;rw [qaH]
 have h0non: ∀ (i:Nat),src[i]? = some none->(zae src sd)[i]? = some none:=fun i e=>by unfold zae;rw [List.getElem?_map,e];rfl
 refine ⟨fun i m σ' H'=>m=ds.length - i/\i<=ds.length/\ ∃ ι' h' done vs,ι'.x=p::ι.x/\zaW ι H ι'.show H'/\zbu K ι' H' (zae src sd) σ'/\zaN K ι' H' h'/\H' p=some (.lst vs)/\zal K ι' H' done vs/\done.length<=i/\
     Fin K E ι H ((do let ys<-za1 f (ds.drop i);pure (D.lst (done++ys))) h') P,
   ⟨_,rfl,Nat.zero_le _,ι.hide p,h,[],[],rfl,?_,L.bStart.pass (zda hp),hr.hide hp,zau,zal.nil,qaV _,?_⟩,?_⟩
 ·have:=hr.laidS (o:= .lst []) hp
  exact ⟨this.old,this.new,this.hid,this.hidk,this.keep⟩
 ·simpa using q
 rintro i m σ2 H2 ⟨rfl,hi2,ι2,h2,done,vs,hx2,s2,L2,hr2,e2,rl2,dl2,q2⟩
 have ps2:Pass ι H ι2 H2:=⟨s2.old,fun b o hb n=>⟨s2.keep b o hb n,fun z=>by
   rcases z with z | z
   · exact s2.nin hb n (.inl z)
   · rw [hx2] at z
     rcases qaP.mp z with z | z
     · rw [z,hp] at hb;cases hb
     · exact n (.inr z)⟩⟩
 have hp2:p∈ι2.x:=by rw [hx2];exact qau
 have base: ∀ {ι':Io} {H':Hp},zaW ι2 H2 ι' H'->zaW ι H ι'.show H':=fun t=>s2.trans (t.shown hx2)
 by_cases hlt:i<ds.length
 ·right
  refine ⟨ok.go ι2 H2 i ps2 hlt,fun σ' H'=>i+1<=ds.length/\ ∃ ι' h' done vs,ι'.x=p::ι.x/\zaW ι H ι'.show H'/\zbu K ι' H' (zae src sd) σ'/\zaN K ι' H' h'/\H' p=some (.lst vs)/\zal K ι' H' done vs/\done.length<=i+1/\
    Fin K E ι H ((do let ys<-za1 f (ds.drop (i+1));pure (D.lst (done++ys))) h') P,fun σ' H' z=>⟨ds.length - (i+1),by omega,rfl,z.1,z.2⟩,fun x H3 y=> ?_⟩
  obtain ⟨gr,d,ed,rd⟩:=ok.yld ι2 H2 h2 i x H3 ps2 hr2 hlt y
  obtain ⟨s3,hr3⟩:=gr.step hr2
  have edr:ds.drop i=d::ds.drop (i+1):=by
   rw [qae hlt]
   rw [qaf hlt] at ed
   rw [Option.some.inj ed]
  rw [edr] at q2
  have q3:=q2
  have st3:zaW ι2 H2 ι2 H3:=s3
  have e3:H3 p=some (.lst vs):=by rw [s3.hidk p hp2];exact e2
  have eq1:(do let ys<-za1 f (d::ds.drop (i+1));pure (D.lst (done++ys)):M D)=(g d (zae src sd)>>=fun sd1=>tc sd1>>=fun c=>if c=true then (te sd1>>=fun y=>za1 f (ds.drop (i+1))>>=fun ys=>pure (D.lst (done++[y]++ys))) else (za1 f (ds.drop (i+1))>>=fun ys=>pure (D.lst (done++ys)))):=by
   rw [za1]
   rw [<- hf]
   simp only [zaH,bind_assoc]
   refine congrArg _ (funext fun sd1=> ?_)
   refine congrArg _ (funext fun c=> ?_)
   cases c with
   | true=>simp only [if_true,bind_assoc,pure_bind,List.append_assoc,List.cons_append,List.nil_append]
   | false=>simp only [qax,if_false,pure_bind]
  rw [eq1] at q3
  refine ⟨ι2,h2,zae src sd,d,L2.step s3,hr3,rd,?_⟩
  refine Fin.bindB q3 (fun ι' H' h' s hr'=>⟨ι'.show,base (s3.trans s),hr'.show⟩) fun sd4 h4 ι4 H4 e4 s4 hr4 q4 σ4 L4=> ?_
  have hx4:ι4.x=p::ι.x:=by rw [s4.hid];exact hx2
  obtain ⟨k1,k2⟩:=hk d _ h2 sd4 h4 h0len h0non e4
  refine ⟨ι4,h4,sd4,L4,hr4,Fin.bindB q4 (fun ι' H' h' s hr'=>⟨ι'.show,base ((s3.trans s4).trans s),hr'.show⟩) fun c h5 ι5 H5 e5 s5 hr5 q5=> ?_⟩
  have hx5:ι5.x=p::ι.x:=by rw [s5.hid];exact hx4
  have sub: ∀ {ι':Io} {H':Hp},zbu K ι' H' sd4 σ4->zbu K ι' H' (zae src sd) σ4:=fun {ι' H'} z=>⟨by rw [<- k1];exact z.1,fun j d' e=>z.2 j d' (k2 j d' (fun w=>by rw [h0non j w] at e;cases e) e)⟩
  have st5:zaW ι2 H2 ι5 H5:=(s3.trans s4).trans s5
  cases c with
  | false=>
   exact zms ⟨hlt,ι5,h5,done,vs,hx5,base st5,sub (L4.step s5),hr5,by rw [st5.hidk p hp2];exact e2,rl2.step st5,Nat.le_succ_of_le dl2,q5⟩
  | true=>
   refine zmq ⟨ι5,h5,sd4,L4.step s5,hr5,Fin.bindB q5 (fun ι' H' h' s hr'=>⟨ι'.show,base (st5.trans s),hr'.show⟩) fun yd h6 ι6 H6 e6 s6 hr6 q6 y ry=> ?_⟩
   have st6:zaW ι2 H2 ι6 H6:=st5.trans s6
   have hx6:ι6.x=p::ι.x:=by rw [s6.hid];exact hx5
   have hp6:p∈ι6.x:=by rw [hx6];exact qau
   have e6':H6 p=some (.lst vs):=by rw [st6.hidk p hp2];exact e2
   refine ⟨vs,e6',by rw [<- rl2.length];omega,hlt,ι6,h6,done++[yd],vs++[y],hx6,zem hp hpx hx2 s2 st6,?_,hr6.hid hp6,zau,?_,?_,?_⟩
   ·exact ((sub (L4.step s5)).step s6).pass (zcd hp6)
   ·exact ((rl2.step st6).append (zal.cons ry zal.nil)).pass (zcd hp6)
   ·rw [qav,List.length_singleton];omega
   ·exact q6
 ·left
  have e:i=ds.length:=by omega
  subst e
  refine ⟨ok.stop ι2 H2 ps2,?_⟩
  rw [List.drop_length] at q2
  have q3:P (.lst done) ι2.show H2:=by
   have:Fin K E ι H ((pure (D.lst (done++[])):M D) h2) P:=q2
   rw [List.append_nil] at this
   exact this _ _ s2 hr2.show
  rw [<- hP] at q3
  refine q3 (.ref p) ?_
  simp only [Rel]
  refine ⟨p,vs,rfl,⟨e2,fun z=> ?_⟩,rl2.pass zdP⟩
  rcases z with z | z
  ·exact (hr2.hidt p (by rw [hx2];exact qau)).2 z
  ·exact hpx (by have z:p∈ι2.x.tail:=z;rw [hx2] at z;exact z)
noncomputable def zaG (fi:Sd->M (List D)) (g:D->Sd->M Sd) (tc:Sd->M Bool) (te:Sd->M D) (src:List (Option Nat)):Sd->M D:=fun sd=>do
 let ds<-fi sd
 fits ds.length
 let ys<-za1 (zaH g tc te (zae src sd)) ds
 pure (D.lst ys)
theorem ziK {K:W.Frag} {fi:Sd->M (List D)} {g:D->Sd->M Sd} {tc:Sd->M Bool} {te:Sd->M D} (hk:zat g src) (σ:L2.St) (H:Hp) (Q:VK) (q:zeR K E (zaG fi g tc te src) σ H Q):
  zjS (zqH K E fi) (znv K E g) (zeg K E tc) (zeR K E te) src σ H Q:=by
 obtain ⟨ι,h,sd,L,hh,q⟩:=q
 refine ⟨ι,h,sd,L,hh,Fin.bind q fun ds h1 ι1 H1 e1 s1 hr1 q1 J ok p hp=> ?_⟩
 obtain ⟨z,q2⟩:=Fin.fits q1
 exact blk hk (L.step s1) hr1 ok z q2 hp
theorem zix {fi:Sd->M (List D)} {g:D->Sd->M Sd} {tc:Sd->M Bool} {te:Sd->M D} (B:BOk X scope N src) (hk:zat g src) (hi:SI X E tg iter fi)
  (hg: ∀ s H fp,SG (cxB X scope N s H fp) E tg g) (ht: ∀ s H fp,SCs (cxB X scope N s H fp) E ifs tc) (he: ∀ s H fp,SE (cxB X scope N s H fp) E elt te)
  (hs: ∀ x,foldedSetIterable iter X.env x=pure x:=by intro _;rfl):SE X E (.ListComp elt [⟨tg,iter,ifs,0⟩] scope pos) (zaG fi g tc te src):=
 PE.imp (zgv B hi hg ht he hs) (ziK hk)
theorem zjR {fi:Sd->M (List D)} {g:D->Sd->M Sd} {tc:Sd->M Bool} {te:Sd->M D} (i:Nat) {y:Str} {py spos:Pos} (B:BOk X scope N src) (hk:zat g src) (hi:SI X E tg iter fi)
  (hg: ∀ s H fp,SG (cxB X scope N s H fp) E tg g) (ht: ∀ s H fp,SCs (cxB X scope N s H fp) E ifs tc) (he: ∀ s H fp,SE (cxB X scope N s H fp) E elt te)
  (hN:X.N.Nodup) (hy:X.N[i]? = some y) (hx:Loc X.env.scope y) (hf:X.fn y=true\/X.env.scope.names.lookup y=some .local) (hsw:swapsWith (.ListComp elt [⟨tg,iter,ifs,0⟩] scope pos) (some (.Name y py)) spos.line X.env=pure true)
  (hs: ∀ x,foldedSetIterable iter X.env x=pure x:=by intro _;rfl):SS X E (.Assign [.Name y py] (.ListComp elt [⟨tg,iter,ifs,0⟩] scope pos) spos) (fun sd=>do let d<-zaG fi g tc te src sd;pure (.nx (sd.set i (some d)))):=by
 refine PS.imp (zia B hi hg ht he hN hy hx hsw hf hs) fun D0 σ H ⟨ι,h,sd,L,hh,q⟩=>ziK hk σ H _ ⟨ι,h,sd,L,hh,Fin.bind q fun d h1 ι1 H1 e1 s1 hr1 q1 v rv=> ?_⟩
 exact Fin.out (E:=E) (P:=zh2 X.K D0) hr1 q1 _ ((L.step s1).set rv i)
end
section
variable {K:W.Frag} {ι:Io} {H:Hp} {h:Hh} {n:Nat} {a:Addr}
theorem zd8 {o:HO} (hn:ι.c[n]? = some (some a)):Pass ι H ι (upd H a o):=⟨fun _ _ z=> .inl z,fun b o' hb nb=>⟨by rw [zao (show b≠a from fun z=>nb (.inl (z▸List.mem_of_getElem? hn)))];exact hb,nb⟩⟩
theorem zaN.cellS {o:HO} (hr:zaN K ι H h) (hn:ι.c[n]? = some (some a)):zaW ι H ι (upd H a o):=
 ⟨fun _ _ z=> .inl z,fun _ z=> .inl z,rfl,fun b hb=>zao fun z=>(hr.hidt b hb).2 (z▸List.mem_of_getElem? hn),fun b o' hb nb=>((zd8 hn).keep b o' hb nb).1⟩
theorem zaN.cellO {c':C} {o':HO} (hr:zaN K ι H h) (hn:ι.c[n]? = some (some a)) (co:CO K ι H c' o'):zaN K ι (upd H a o') (h.set n c'):=by
 refine ⟨by rw [qaI];exact hr.len,hr.inj,fun m b c hm hc=> ?_,fun m hm=> ?_,fun b hb=>⟨?_,(hr.hidt b hb).2⟩⟩
 ·by_cases e:n=m
  ·subst e
   rw [hn] at hm
   cases hm
   rw [qai (by rw [hr.len];exact (qac.mp hn).1)] at hc
   cases hc
   exact ⟨o',zau,co.pass (zd8 hn)⟩
  ·rw [qao e] at hc
   obtain ⟨o2,e2,e3⟩:=hr.at_ m b c hm hc
   have ne:b≠a:=fun z=>by subst z;exact e (hr.inj n m b hn hm)
   exact ⟨o2,by rw [zao ne];exact e2,e3.pass (zd8 hn)⟩
 ·have e:n≠m:=fun z=>by subst z;rw [hn] at hm;cases hm
  rw [qao e]
  exact hr.dead m hm
 ·rw [zao (show b≠a from fun z=>(hr.hidt b hb).2 (z▸List.mem_of_getElem? hn))]
  exact (hr.hidt b hb).1
theorem zaN.cell {ds':List D} {vs':List V} (hr:zaN K ι H h) (hn:ι.c[n]? = some (some a)) (rl:zal K ι H ds' vs'):zaN K ι (upd H a (.lst vs')) (h.set n (.lst ds')):=hr.cellO hn ⟨vs',rfl,rl⟩
theorem zaN.read {ds:List D} {v:V} (hr:zaN K ι H h) (r:Rel K ι H (.cel n) v) (e:h[n]? = some (.lst ds)): ∃ a vs,v= .ref a/\ι.c[n]? = some (some a)/\H a=some (.lst vs)/\zal K ι H ds vs:=by
 simp only [Rel] at r
 obtain ⟨a,e1,r | r⟩:=r
 ·obtain ⟨o,e3,vs,rfl,e4⟩:=hr.at_ n a _ r e
  exact ⟨a,vs,e1,r,e3,e4⟩
 ·rw [hr.dead n r] at e
  cases e
end
noncomputable def zag (n:Nat):M (List D):=fun h=>match h[n]? with
 | some (.lst ds)=> .ok ds h
 | _=> .bad
noncomputable def zbc (n:Nat) (ds:List D):M Unit:=fun h=> .ok () (h.set n (.lst ds))
theorem zb3 {n:Nat} {h h':Hh} {ds:List D} (e:zag n h= .ok ds h'):h'=h/\h[n]? = some (.lst ds):=by
 unfold zag at e
 cases z:h[n]? with
 | none=>rw [z] at e;cases e
 | some c=>
  rw [z] at e
  cases c with
  | lst xs=>cases e;exact ⟨rfl,rfl⟩
  | dic _=>cases e
  | dead=>cases e
noncomputable def ofO {α:Type}:Option α->M α
 | some a=>pure a
 | none=>M.bad
noncomputable def dIx:D->D->M D:=fun x y=>match x,y with
 | .tup ds,.int i=>ofO (atI ds i)
 | .lst ds,.int i=>ofO (atI ds i)
 | .scr ds,.int i=>ofO (atI ds i)
 | .cel n,.int i=>do let ds<-zag n;ofO (atI ds i)
 | _,_=>M.bad
theorem zeV {K:W.Frag} {ι:Io} {H:Hp} {ds:List D} {vs:List V} {i:Int} {d:D} (rl:zal K ι H ds vs) (e:atI ds i=some d): ∃ v,atI vs i=some v/\Rel K ι H d v:=by
 unfold atI at e ⊢
 rw [<- rl.length]
 cases z:ixN ds.length i with
 | none=>rw [z] at e;cases e
 | some j=>
  rw [z] at e
  have e:ds[j]? = some d:=e
  exact rl.get e
section
variable {X:Cx} {E:XE}
theorem Fin.ofO {α:Type} {K:W.Frag} {ι:Io} {H:Hp} {h:Hh} {o:Option α} {P:α->Io->Hp->Prop} (hr:zaN K ι H h) (q:Fin K E ι H (L3.ofO o h) P): ∃ a,o=some a/\P a ι H:=by
 cases o with
 | none=>exact qa0 q
 | some a=>exact ⟨a,rfl,Fin.out hr q⟩
theorem zr8:IxR X (zde X.K E dIx):=by
 refine IxR.imp (znX.or zpO) fun x y H Q ⟨ι,h,d1,d2,r1,r2,hr,q⟩=> ?_
 cases d2 with
 | int i=>
  simp only [Rel] at r2
  cases d1 with
  | tup ds=>
   obtain ⟨a,vs,e,h1,h2⟩:=zck r1
   obtain ⟨d,e1,q⟩:=Fin.ofO hr q
   obtain ⟨v,e2,rv⟩:=zeV h2 e1
   exact .inr ⟨a,vs,i,v,e,r2,h1,e2,q v rv⟩
  | lst ds=>
   obtain ⟨a,vs,e,h1,h2⟩:=zc5 r1
   obtain ⟨d,e1,q⟩:=Fin.ofO hr q
   obtain ⟨v,e2,rv⟩:=zeV h2 e1
   exact .inl ⟨a,vs,i,v,e,r2,h1,e2,q v rv⟩
  | scr ds=>
   obtain ⟨a,vs,e,h1,h2⟩:=zjQ r1
   obtain ⟨d,e1,q⟩:=Fin.ofO hr q
   obtain ⟨v,e2,rv⟩:=zeV h2 e1
   exact .inl ⟨a,vs,i,v,e,r2,h1,e2,q v rv⟩
  | cel n=>
   have q:Fin X.K E ι H ((zag n>>=fun ds=>L3.ofO (atI ds i)) h) _:=q
   have q':Fin X.K E ι H (M.bind (zag n) (fun ds=>L3.ofO (atI ds i)) h) _:=q
   unfold M.bind at q'
   cases z:zag n h with
   | bad=>rw [z] at q';exact qa0 q'
   | exc c h'=>unfold zag at z;split at z<;>cases z
   | ok ds h'=>
    rw [z] at q'
    obtain ⟨rfl,z2⟩:=zb3 z
    obtain ⟨a,vs,e,hn,hH,rl⟩:=hr.read r1 z2
    obtain ⟨d,e1,q⟩:=Fin.ofO hr q'
    obtain ⟨v,e2,rv⟩:=zeV rl e1
    exact .inl ⟨a,vs,i,v,e,r2,SqL.of hH,e2,q v rv⟩
  | _=>exact qa0 q
 | _=>cases d1<;>exact qa0 q
noncomputable def zj3 (o i d:D):M Unit:=match o,i with
 | .cel n,.int k=>do
  let ds<-zag n
  let j<-ofO (ixN ds.length k)
  zbc n (ds.set j d)
 | _,_=>M.bad
theorem zpj {o i:Expr} {pos:Pos} {fo fi:Sd->M D} (hp: ∀ {t:zpY},zoi X t->PG X (.Subscript o i pos) (zr2 (zeR X.K E fo) (zeR X.K E fi) t)):
  SG X E (.Subscript o i pos) (fun d sd=>do let x<-fo sd;let y<-fi sd;zj3 x y d;pure sd):=by
 refine PG.imp (hp zkV) fun v σ H Q ⟨ι,h,sd,d,L,hr,rd,q⟩=>⟨ι,h,sd,L,hr,Fin.bind q fun x h1 ι1 H1 e1 s1 hr1 q1 xv rx=> ?_⟩
 refine ⟨ι1,h1,sd,L.step s1,hr1,Fin.bind q1 fun y h2 ι2 H2 e2 s2 hr2 q2 yv ry=> ?_⟩
 cases x with
 | cel n=>
  cases y with
  | int k=>
   have rx2:=rx.step s2
   have q3:Fin X.K E ι2 H2 ((zag n>>=fun ds=>(ofO (ixN ds.length k)>>=fun j=>zbc n (ds.set j d)>>=fun _=>pure sd)) h2) (fun sd' ι' H'=> ∀ σ',zbu X.K ι' H' sd' σ'->Q σ' H'):=by
    have e:(do zj3 (.cel n) (.int k) d;pure sd:M Sd)=(zag n>>=fun ds=>(ofO (ixN ds.length k)>>=fun j=>zbc n (ds.set j d)>>=fun _=>pure sd)):=by
     show ((zag n>>=fun ds=>(ofO (ixN ds.length k)>>=fun j=>zbc n (ds.set j d)))>>=fun _=>pure sd)=_
     simp only [bind_assoc]
    rw [<- e]
    exact q2
   have q':Fin X.K E ι2 H2 (M.bind (zag n) (fun ds=>(ofO (ixN ds.length k)>>=fun j=>zbc n (ds.set j d)>>=fun _=>pure sd)) h2) _:=q3
   unfold M.bind at q'
   cases z:zag n h2 with
   | bad=>rw [z] at q';exact qa0 q'
   | exc c h'=>unfold zag at z;split at z<;>cases z
   | ok ds h'=>
    rw [z] at q'
    obtain ⟨rfl,z2⟩:=zb3 z
    obtain ⟨a,vs,e,hn,hH,rl⟩:=hr2.read rx2 z2
    simp only [Rel] at ry
    have q4:Fin X.K E ι2 H2 (M.bind (ofO (ixN ds.length k)) (fun j=>zbc n (ds.set j d)>>=fun _=>pure sd) h') _:=q'
    unfold M.bind at q4
    cases z3:ixN ds.length k with
    | none=>rw [z3] at q4;exact qa0 q4
    | some j=>
     rw [z3] at q4
     have q5:Fin X.K E ι2 H2 (R.ok sd (h'.set n (.lst (ds.set j d)))) (fun sd' ι' H'=> ∀ σ',zbu X.K ι' H' sd' σ'->Q σ' H'):=q4
     refine ⟨a,vs,k,j,e,ry,hH,by rw [<- rl.length];exact z3,?_⟩
     have rd2:=(rd.step s1).step s2
     exact q5 ι2 _ (hr2.cellS hn) (hr2.cell hn (rl.set rd2 j)) σ (((L.step s1).step s2).step (hr2.cellS hn))
  | _=>exact qa0 q2
 | _=>cases y<;>exact qa0 q2
end
noncomputable abbrev E0x:XE:=fun _ _=>False
noncomputable def zcx (K:W.Frag) (n:Nat) (F:List D->M D):Sp:=fun vs H Q _=>vs.length=n/\ ∃ ι h ds,zal K ι H ds vs/\zaN K ι H h/\Fin K E0x ι H (F ds h) fun d ι' H'=> ∀ v,Rel K ι' H' d v->Q v H'
noncomputable def zeB (n:Nat) (ds:List D):Sd:=ds.map some++List.replicate (n - ds.length) none
noncomputable def zen:Out->M D
 | .nx _=>pure .non
 | .rt d=>pure d
 | _=>M.bad
noncomputable def zeo (n:Nat) (G:Sd->M Out) (ds:List D):M D:=do let o<-G (zeB n ds);zen o
theorem zdj {K:W.Frag} {ι:Io} {H:Hp} {ds:List D} {vs:List V} {N:List Str} (h:zal K ι H ds vs):zbu K ι H (zeB N.length ds) (L2.zdo N vs):=by
 have hl:=h.length
 unfold zeB L2.zdo
 refine ⟨by simp [hl],fun i d e=> ?_⟩
 by_cases hi:i<ds.length
 ·rw [qad (by simpa using hi),List.getElem?_map] at e
  cases z:ds[i]? with
  | none=>rw [z] at e;cases e
  | some d'=>
   rw [z] at e
   cases e
   obtain ⟨v,h1,h2⟩:=h.get z
   exact ⟨v,by rw [qad (by rw [qaH, <-hl];exact hi),List.getElem?_map,h1];rfl,h2⟩
 ·rw [qaa (by simpa using hi),List.getElem?_replicate] at e
  split at e<;>cases e
section
variable {P:Program} {w:World} {K:W.Frag} {mg:Str->Option Value} {base:Heap}
theorem zcC {x qual:Str} {st:Stmt} {f:Addr} {fd:FuncData} {N ps:List Str} {k:Nat} {G:Sd->M Out} (F:Fun K x qual st f fd) (S:zar N ps (zaf st))
  (hb: ∀ (cdv:Value) (A:Around) (outer:List Env) (s:Shared) (H:Hp) (E:XK),zcD k (A.deeper (envOfC qual (zaf st) s.heap.objs.size f cdv))->SSs (zgj CX0 P w K mg base N qual (zaf st) f cdv A outer s H E).nox E0x (zbW st) G):
  zbZ P w K mg base CX0 (k+1) f fd ps (zcx K ps.length (zeo N.length G)):=by
 refine F.ok S (fun vs H Q E h=>h.1) fun cdv A outer s H vs Q E hr ⟨hl,ι,h,ds,rl,hh,q⟩=>⟨_,hb cdv A outer s H E hr,ι,h,zeB N.length ds,zdj rl,hh,?_⟩
 refine Fin.bind q fun o h1 ι1 H1 e1 s1 hr1 q1=> ?_
 cases o with
 | nx sd=>exact fun σ' _=>Fin.out hr1 q1 _ (by simp [Rel])
 | rt d=>exact fun v rv=>Fin.out hr1 q1 v rv
 | bk sd=>exact qa0 q1
 | ct sd=>exact qa0 q1
end
section
variable {X:Cx} {e:Expr} {es:List Expr} {pos p:Pos}
noncomputable def zaF (n:Nat) (F:List D->M D) (ds:List D):M D:=if ds.length=n then F ds else M.bad
theorem zmR {k:Nat} {f:Addr} {fd:FuncData} {ps:List Str} {n:Nat} {F:List D->M D} {fs:Sd->M (List D)} {x:Str} (G:zbZ X.prog X.w X.K X.mg X.base CX0 k f fd ps (zcx X.K n F)) (hr:zcD k X.A) (hg:Gl X x) (hm:X.mg x=some (.ref f)) (hk:W.keepIn X.K (.ref f)=true) (hb:zaQ X.K fd ps [])
  (ha:SA X E0x (e::es) fs) (hdb:(x==("__debug__":Str))=false:=by decide) (he:starEach (e::es) X.env=(false,eval e X.env)::starEach es X.env:=by rfl) (hpl:(backTo pos (starEach es X.env)).any (·.1)=false:=by rfl):
  SE X E0x (.Call (.Name x p) (e::es) [] pos) (fun sd=>do let ds<-fs sd;zaF n F ds):=by
 refine PE.imp (zgR G hr hg hm hk hb (dvs:=[]) .nil (E:=fun _ _ _=>False) zpr ha hdb he hpl) fun σ H Q ⟨ι,h,sd,L,hh,q⟩=>⟨ι,h,sd,L,hh,Fin.bind q fun ds h1 ι1 H1 e1 s1 hr1 q1 vs rv=> ?_⟩
 show zcx X.K n F (vs++[]) H1 Q _
 rw [List.append_nil]
 unfold zaF at q1
 by_cases hl:ds.length=n
 ·rw [qa4 hl] at q1
  exact ⟨by rw [<- rv.length];exact hl,ι1,h1,ds,rv,hr1,q1⟩
 ·rw [qa5 hl] at q1
  exact qa0 q1
end
section
variable {X:Cx} {E:XE}
theorem Fin.guard {α:Type} {K:W.Frag} {ι:Io} {H:Hp} {h:Hh} {c:Prop} [Decidable c] {f:M α} {P:α->Io->Hp->Prop} (q:Fin K E ι H ((if c then f else M.bad) h) P):c/\Fin K E ι H (f h) P:=by
 by_cases hc:c
 ·rw [qa4 hc] at q;exact ⟨hc,q⟩
 ·rw [qa5 hc] at q;exact qa0 q
theorem zkA:OpR X (binaryOp .Add) (fun x y H Q=> ∃ a b ys,x= .ref a/\y= .ref b/\SqT X.K H a []/\SqT X.K H b ys/\Q (.ref b) H):=by
 intro pins s σ H x y v u Q I rx ry h
 obtain ⟨a,b,ys,rfl,rfl,ha,hb,q⟩:=h
 cases rx
 cases ry
 obtain ⟨its,r1,p1,_⟩:=I.tuple ha
 obtain ⟨its2,r2,p2,_⟩:=I.tuple hb
 cases r1
 obtain ⟨⟨cls,dd,data,sl⟩,ho,hc,n,hd⟩:=id p1
 obtain ⟨⟨cls2,dd2,data2,sl2⟩,ho2,hc2,n2,hd2⟩:=id p2
 simp only at hc hd hc2 hd2
 subst hc hd hc2 hd2
 exact concat_meets ⟨_,ho,rfl⟩ ⟨_,ho2,rfl⟩ noFill_tuple_add seq_tuple_add PySem.F.slot_tuple_add PySem.F.entry_tuple_add (PySem.F.args_tuple_add_2 _ _)
   (tuple_addW0 a b _ _ n n2 dd dd2 sl sl2 (by simp)) ⟨ho,ho2,⟨.ref b,H,I,rfl,q⟩⟩
noncomputable def zdu (x y:D):M D:=match x,y with
 | .int i,.int j=>pure (.int (i+j))
 | .tup xs,.tup ys=>do fits (xs.length+ys.length);pure (.tup (xs++ys))
 | .lst xs,.lst ys=>do fits (xs.length+ys.length);pure (.lst (xs++ys))
 | .str x,.str y=>do fits (x.length+y.length);pure (.str (x++y))
 | _,_=>M.bad
theorem zaE:OpR X (binaryOp .Add) (zde X.K E zdu):=by
 refine OpR.imp (zo1.or (zkA.or (zno.or (zpS.or zif)))) fun x y H Q ⟨ι,h,d1,d2,r1,r2,hr,q⟩=> ?_
 unfold zdu at q
 split at q
 ·simp only [Rel] at r1 r2
  exact .inl ⟨_,_,r1,r2,Fin.out hr q _ (by simp [Rel])⟩
 ·rename_i xs ys
  right
  obtain ⟨a,vs,e,h1,h2⟩:=zck r1
  obtain ⟨b,ws,e',h1',h2'⟩:=zck r2
  obtain ⟨z,q⟩:=Fin.fits q
  cases xs with
  | nil=>
   simp only [zal] at h2
   subst h2
   exact .inl ⟨a,b,ws,e,e',h1,h1',Fin.out hr q _ (by rw [<- e'];exact r2)⟩
  | cons x0 xr=>
   refine .inr (.inl ⟨a,b,vs,ws,e,e',h1,h1',fun z=> ?_,by rw [<- h2.length, <-h2'.length];exact z,fun z=> ?_,fun z p hp=>zp6 hr (h2.append h2') q hp⟩)
   ·subst z
    have:=h2.length
    cases this
   ·subst z
    have:=h2'.length
    cases ys with
    | nil=>rw [List.append_nil] at q;exact Fin.out hr q _ (by rw [<- e];exact r1)
    | cons _ _=>cases this
 ·rename_i xs ys
  right;right;right;left
  simp only [Rel] at r1 r2
  obtain ⟨a,vs,e,h1,h2⟩:=r1
  obtain ⟨b,ws,e',h1',h2'⟩:=r2
  obtain ⟨z,q⟩:=Fin.fits q
  exact ⟨a,b,vs,ws,e,e',h1.1,h1'.1,by rw [<- h2.length, <-h2'.length];exact z,fun p hp=>znH hr (h2.append h2') q hp⟩
 ·simp only [Rel] at r1 r2
  obtain ⟨z,q⟩:=Fin.fits q
  exact .inr (.inr (.inr (.inr ⟨_,_,r1,r2,z,Fin.out hr q _ (by simp [Rel])⟩)))
 ·exact qa0 q
noncomputable def dII (C:Int->Int->Bool) (g:Int->Int->D) (x y:D):M D:=match x,y with
 | .int i,.int j=>if C i j=true then pure (g i j) else M.bad
 | _,_=>M.bad
theorem zi3 {f:Value->Value->Sem Value} {C:Int->Int->Bool} {C':Int->Int->Prop} {g:Int->Int->V} {g':Int->Int->D} (ho:OpR X f (rI C' g)) (hc: ∀ i j,C i j=true->C' i j) (hg: ∀ i j ι H,Rel X.K ι H (g' i j) (g i j)):OpR X f (zde X.K E (dII C g')):=by
 refine OpR.imp ho fun x y H Q ⟨ι,h,d1,d2,r1,r2,hr,q⟩=> ?_
 unfold dII at q
 split at q
 ·simp only [Rel] at r1 r2
  obtain ⟨c,q⟩:=Fin.guard q
  exact ⟨_,_,r1,r2,hc _ _ c,Fin.out hr q _ (hg _ _ _ _)⟩
 ·exact qa0 q
theorem zgZ {f:Value->Value->Sem Value} {g:Int->Int->V} {g':Int->Int->D} (ho:OpR X f (rI0 g)) (hg: ∀ i j ι H,Rel X.K ι H (g' i j) (g i j)):OpR X f (zde X.K E (dII (fun _ _=>true) g')):=by
 refine OpR.imp ho fun x y H Q ⟨ι,h,d1,d2,r1,r2,hr,q⟩=> ?_
 unfold dII at q
 split at q
 ·simp only [Rel] at r1 r2
  obtain ⟨c,q⟩:=Fin.guard q
  exact ⟨_,_,r1,r2,Fin.out hr q _ (hg _ _ _ _)⟩
 ·exact qa0 q
noncomputable def zox:=dII (fun _ _=>true) fun i j=> .int (i - j)
theorem zgN:OpR X (binaryOp .Sub) (zde X.K E zox):=zgZ zpk fun _ _ _ _=>by simp [Rel]
noncomputable def zbN (i:Int):Bool:=decide (-(2^64)<i) && decide (i<2^64)
theorem zd2 {i:Int} (h:zbN i=true): -(2^64)<i/\i<2^64:=by unfold zbN at h;simpa using h
theorem zln:OpR X (binaryOp .FloorDiv) (rI (fun _ j=>0<j/\j<2^64) fun i j=> .int (i / j)):=opI fun i j _ _ _ _ _ hc q=>by
 refine floordiv_int (by omega) (by rw [Int.fdiv_eq_ediv_of_nonneg _ (by omega)];exact q) (.inl (PyProof.noPylong_of_log2 ?_))
 have h1:j.natAbs<2^64:=by omega
 have h0:j.natAbs≠0:=by omega
 exact Nat.lt_trans ((Nat.log2_lt h0).mpr h1) (by decide)
noncomputable def zk6:=dII (fun _ j=>decide (0<j) && decide (j<2^64)) fun i j=> .int (i / j)
theorem zhd:OpR X (binaryOp .FloorDiv) (zde X.K E zk6):=zi3 zln (fun i j h=>by simpa using h) fun _ _ _ _=>by simp [Rel]
noncomputable def znY:=dII (fun _ j=>decide (0<j)) fun i j=> .int (i % j)
theorem zdZ:OpR X (binaryOp .Mod) (zde X.K E znY):=zi3 zoO (fun i j h=>by simpa using h) fun _ _ _ _=>by simp [Rel]
noncomputable def zoe (i j:Int):Bool:=decide (0<=j) && decide (j<=1000000) && decide (i.natAbs<2^64)
noncomputable def zqr:=dII zoe fun i j=> .int (i^j.toNat)
theorem zg3 {i j:Int} (h:zoe i j=true):zqq i j:=by unfold zoe at h;simpa [zqq,and_assoc] using h
theorem zmL:OpR X (binaryOp .Pow) (zde X.K E zqr):=zi3 zpG (fun _ _=>zg3) fun _ _ _ _=>by simp [Rel]
noncomputable def zpW:=dII zoe fun i j=> .int (i*2^j.toNat)
theorem zgX:OpR X (binaryOp .LShift) (zde X.K E zpW):=zi3 zok (fun _ _=>zg3) fun _ _ _ _=>by simp [Rel]
noncomputable def zre:=dII (fun _ j=>decide (0<=j)) fun i j=> .int (i / 2^j.toNat)
theorem zm0:OpR X (binaryOp .RShift) (zde X.K E zre):=zi3 zpv (fun i j h=>by simpa using h) fun _ _ _ _=>by simp [Rel]
noncomputable def zrn:=dII (fun _ _=>true) fun i j=> .int (Builtin.bitAnd i j)
theorem znj:OpR X (binaryOp .BitAnd) (zde X.K E zrn):=zgZ zpt fun _ _ _ _=>by simp [Rel]
noncomputable def dOr:=dII (fun _ _=>true) fun i j=> .int (Builtin.bitOr i j)
theorem zoQ:OpR X (binaryOp .BitOr) (zde X.K E dOr):=zgZ zrD fun _ _ _ _=>by simp [Rel]
noncomputable def dLt:=dII (fun _ _=>true) fun i j=> .bl (decide (i<j))
theorem zlT:OpR X (compareOp .Lt) (zde X.K E dLt):=zgZ zqE fun _ _ _ _=>by simp [Rel]
noncomputable def dLe:=dII (fun _ _=>true) fun i j=> .bl (decide (i<=j))
noncomputable def dGt:=dII (fun _ _=>true) fun i j=> .bl (decide (j<i))
noncomputable def dGe:=dII (fun _ _=>true) fun i j=> .bl (decide (j<=i))
noncomputable def zsc:D->M D
 | .int i=>pure (.int (-i))
 | _=>M.bad
mutual
noncomputable def pd:D->Option PyData
 | .non=>some .none
 | .bl b=>some (.bool b)
 | .int i=>some (.int i)
 | .str x=>some (.str x)
 | .tup xs=>(pdL xs).map .tuple
 | .lst xs=>(pdL xs).map .list
 | .scr xs=>(pdL xs).map .list
 | _=>none
noncomputable def pdL:List D->Option (List PyData)
 | []=>some []
 | x::xs=>match pd x,pdL xs with
  | some a,some r=>some (a::r)
  | _,_=>none
end
mutual
theorem zdV {pins:List (Addr×Obj)} {σ:L2.St} {H:Hp} {s:Shared} {ι:Io} (I:Inv X pins σ H s): ∀ {d:D} {v:V} {u:Value} {p:PyData},Rel X.K ι H d v->zbg v u->pd d=some p-> ∃ as,Reads s.heap u p as
 | .non,v,u,p,r,ru,e=>by simp only [Rel] at r;subst r;cases ru;cases e;exact ⟨_,.none⟩
 | .bl b,v,u,p,r,ru,e=>by simp only [Rel] at r;subst r;cases ru;cases e;exact ⟨_,.bool _⟩
 | .int i,v,u,p,r,ru,e=>by simp only [Rel] at r;subst r;obtain ⟨t,rfl⟩:=ru;cases e;exact ⟨_,.int _ _⟩
 | .str i,v,u,p,r,ru,e=>by simp only [Rel] at r;subst r;obtain ⟨t,rfl⟩:=ru;cases e;exact ⟨_,.str _ _⟩
 | .tup ds,v,u,p,r,ru,e=>by
  obtain ⟨a,vs,rfl,h1,h2⟩:=zck r
  cases ru
  obtain ⟨its,rv,pl,_⟩:=I.tuple h1
  obtain ⟨o,ho,hc,n,hd⟩:=pl
  unfold pd at e
  cases z:pdL ds with
  | none=>rw [z] at e;cases e
  | some ps=>
   rw [z] at e;cases e
   obtain ⟨as,q⟩:=zgi I h2 rv z
   exact ⟨_,.tuple ho hc hd (by simpa using q)⟩
 | .lst ds,v,u,p,r,ru,e=>by
  obtain ⟨a,vs,rfl,h1,h2⟩:=zc5 r
  cases ru
  obtain ⟨its,rv,pl,_⟩:=I.list h1
  obtain ⟨o,ho,hc,n,hd⟩:=pl.isList
  unfold pd at e
  cases z:pdL ds with
  | none=>rw [z] at e;cases e
  | some ps=>
   rw [z] at e;cases e
   obtain ⟨as,q⟩:=zgi I h2 rv z
   exact ⟨_,.list ho hc hd (by simpa using q)⟩
 | .scr ds,v,u,p,r,ru,e=>by
  obtain ⟨a,vs,rfl,h1,h2⟩:=zjQ r
  cases ru
  obtain ⟨its,rv,pl,_⟩:=I.list h1
  obtain ⟨o,ho,hc,n,hd⟩:=pl.isList
  unfold pd at e
  cases z:pdL ds with
  | none=>rw [z] at e;cases e
  | some ps=>
   rw [z] at e;cases e
   obtain ⟨as,q⟩:=zgi I h2 rv z
   exact ⟨_,.list ho hc hd (by simpa using q)⟩
 | .cel n,_,_,_,_,_,e=>by cases e
 | .set xs,_,_,_,_,_,e=>by cases e
 | .dct,_,_,_,_,_,e=>by cases e
 | .fn _,_,_,_,_,_,e=>by cases e
 | .exn _,_,_,_,_,_,e=>by cases e
theorem zgi {pins:List (Addr×Obj)} {σ:L2.St} {H:Hp} {s:Shared} {ι:Io} (I:Inv X pins σ H s): ∀ {ds:List D} {vs:List V} {us:List Value} {ps:List PyData},zal X.K ι H ds vs->zaI vs us->pdL ds=some ps-> ∃ as,ReadsAll s.heap us ps as
 | [],vs,us,ps,r,ru,e=>by simp only [zal] at r;subst r;cases ru;cases e;exact ⟨_,.nil⟩
 | d::ds,vs,us,ps,r,ru,e=>by
  simp only [zal] at r
  obtain ⟨v,vr,rfl,r1,r2⟩:=r
  cases ru with
  | cons ru1 ru2=>
   unfold pdL at e
   cases z:pd d with
   | none=>rw [z] at e;cases e
   | some a=>
    cases z2:pdL ds with
    | none=>rw [z,z2] at e;cases e
    | some b=>
     rw [z,z2] at e
     cases e
     obtain ⟨as,q1⟩:=zdV I r1 ru1 z
     obtain ⟨bs,q2⟩:=zgi I r2 ru2 z2
     exact ⟨_,.cons q1 q2⟩
end
noncomputable def zeC (a b:PyData):Bool:=a.canLay0 && b.canLay0 && decide (min a.depth b.depth<=60)
noncomputable def zl0 (neg:Bool) (x y:D):M D:=match pd x,pd y with
 | some a,some b=>if zeC a b=true then pure (.bl (if neg then !PyData.eqv a b else PyData.eqv a b)) else M.bad
 | _,_=>M.bad
noncomputable def dEq:=zl0 false
noncomputable def dNe:=zl0 true
theorem zdK {a b:PyData} (h:zeC a b=true):a.canLay0=true/\b.canLay0=true/\min a.depth b.depth<=60:=by unfold zeC at h;simpa [and_assoc] using h
theorem zhJ {K:W.Frag} {ι:Io} {H:Hp} {h:Hh} {neg:Bool} {x y:D} {P:D->Io->Hp->Prop} (q:Fin K E ι H (zl0 neg x y h) P): ∃ a b,pd x=some a/\pd y=some b/\zeC a b=true/\Fin K E ι H ((pure (.bl (if neg then !PyData.eqv a b else PyData.eqv a b)):M D) h) P:=by
 unfold zl0 at q
 cases e1:pd x with
 | none=>rw [e1] at q;exact qa0 q
 | some a=>
  cases e2:pd y with
  | none=>rw [e1,e2] at q;exact qa0 q
  | some b=>
   rw [e1,e2] at q
   obtain ⟨c,q⟩:=Fin.guard q
   exact ⟨a,b,rfl,rfl,c,q⟩
theorem zfw (hu:X.A.units+60<cLine):OpR X (compareOp .Eq) (zde X.K E dEq):=by
 intro pins s σ H x y v u Q I rx ry ⟨ι,h,d1,d2,r1,r2,hr,q⟩
 obtain ⟨a,b,e1,e2,c,q2⟩:=zhJ q
 obtain ⟨c1,c2,c3⟩:=zdK c
 obtain ⟨as,ra⟩:=zdV I r1 rx e1
 obtain ⟨bs,rb⟩:=zdV I r2 ry e2
 exact SeqAt.compareEq_reads ra rb c1 c2 (by omega) ⟨.bl _,H,I,rfl,Fin.out hr q2 (.bl _) (by simp [Rel])⟩
theorem zi6 (hu:X.A.units+60<cLine):OpR X (compareOp .NotEq) (zde X.K E dNe):=by
 intro pins s σ H x y v u Q I rx ry ⟨ι,h,d1,d2,r1,r2,hr,q⟩
 obtain ⟨a,b,e1,e2,c,q2⟩:=zhJ q
 obtain ⟨c1,c2,c3⟩:=zdK c
 obtain ⟨as,ra⟩:=zdV I r1 rx e1
 obtain ⟨bs,rb⟩:=zdV I r2 ry e2
 exact SeqAt.compareNe_reads ra rb c1 c2 (by omega) ⟨.bl _,H,I,rfl,Fin.out hr q2 (.bl _) (by simp [Rel])⟩
noncomputable def ziH (a:PyData) (xs:List PyData):Bool:=a.canLay0 && PyData.canLayAll0 xs && decide (min (PyData.depthAll xs) a.depth<=50)
theorem zhc {a:PyData} {xs:List PyData} (h:ziH a xs=true):a.canLay0=true/\PyData.canLayAll0 xs=true/\min (PyData.depthAll xs) a.depth<=50:=by unfold ziH at h;simpa [and_assoc] using h
noncomputable def zkf (neg:Bool) (x c:D):M D:=match pd x,c with
 | some a,.tup ds=>match pdL ds with
  | some xs=>if ziH a xs=true then pure (.bl (if neg then !xs.any (fun y=>PyData.eqv y a) else xs.any fun y=>PyData.eqv y a)) else M.bad
  | none=>M.bad
 | some a,.lst ds=>match pdL ds with
  | some xs=>if ziH a xs=true then pure (.bl (if neg then !xs.any (fun y=>PyData.eqv y a) else xs.any fun y=>PyData.eqv y a)) else M.bad
  | none=>M.bad
 | _,_=>M.bad
noncomputable def dIn:=zkf false
noncomputable def zfE:=zkf true
theorem zhN {K:W.Frag} {ι:Io} {H:Hp} {h:Hh} {neg:Bool} {x c:D} {P:D->Io->Hp->Prop} (q:Fin K E ι H (zkf neg x c h) P): ∃ a ds xs,pd x=some a/\pdL ds=some xs/\(c= .tup ds\/c= .lst ds)/\ziH a xs=true/\
  Fin K E ι H ((pure (.bl (if neg then !xs.any (fun y=>PyData.eqv y a) else xs.any fun y=>PyData.eqv y a)):M D) h) P:=by
 unfold zkf at q
 cases e1:pd x with
 | none=>rw [e1] at q;exact qa0 q
 | some a=>
  rw [e1] at q
  cases c with
  | tup ds=>
   dsimp only at q
   cases e2:pdL ds with
   | none=>rw [e2] at q;exact qa0 q
   | some xs=>
    rw [e2] at q
    obtain ⟨c,q⟩:=Fin.guard q
    exact ⟨a,ds,xs,rfl,e2,.inl rfl,c,q⟩
  | lst ds=>
   dsimp only at q
   cases e2:pdL ds with
   | none=>rw [e2] at q;exact qa0 q
   | some xs=>
    rw [e2] at q
    obtain ⟨c,q⟩:=Fin.guard q
    exact ⟨a,ds,xs,rfl,e2,.inr rfl,c,q⟩
  | _=>exact qa0 q
theorem zoo (hu:X.A.units+60<cLine):OpR X (compareOp .In) (zde X.K E dIn):=by
 intro pins s σ H x y v u Q I rx ry ⟨ι,h,d1,d2,r1,r2,hr,q⟩
 obtain ⟨a,ds,xs,e1,e2,ec,c,q2⟩:=zhN q
 obtain ⟨c1,c2,c3⟩:=zhc c
 obtain ⟨as,ra⟩:=zdV I r1 rx e1
 rcases ec with rfl | rfl
 ·obtain ⟨bs,rb⟩:=zdV I r2 ry (p:= .tuple xs) (by unfold pd;rw [e2];rfl)
  exact SeqAt.in_tuple_reads rb ra c2 c1 (by omega) ⟨.bl _,H,I,rfl,Fin.out hr q2 (.bl _) (by simp [Rel])⟩
 ·obtain ⟨bs,rb⟩:=zdV I r2 ry (p:= .list xs) (by unfold pd;rw [e2];rfl)
  exact SeqAt.in_list_reads rb ra c2 c1 (by omega) ⟨.bl _,H,I,rfl,Fin.out hr q2 (.bl _) (by simp [Rel])⟩
theorem zf3 (hu:X.A.units+60<cLine):OpR X (compareOp .NotIn) (zde X.K E zfE):=by
 intro pins s σ H x y v u Q I rx ry ⟨ι,h,d1,d2,r1,r2,hr,q⟩
 obtain ⟨a,ds,xs,e1,e2,ec,c,q2⟩:=zhN q
 obtain ⟨c1,c2,c3⟩:=zhc c
 obtain ⟨as,ra⟩:=zdV I r1 rx e1
 rcases ec with rfl | rfl
 ·obtain ⟨bs,rb⟩:=zdV I r2 ry (p:= .tuple xs) (by unfold pd;rw [e2];rfl)
  exact SeqAt.notIn_tuple_reads rb ra c2 c1 (by omega) ⟨.bl _,H,I,rfl,Fin.out hr q2 (.bl _) (by simp [Rel])⟩
 ·obtain ⟨bs,rb⟩:=zdV I r2 ry (p:= .list xs) (by unfold pd;rw [e2];rfl)
  exact SeqAt.notIn_list_reads rb ra c2 c1 (by omega) ⟨.bl _,H,I,rfl,Fin.out hr q2 (.bl _) (by simp [Rel])⟩
end
end L3
namespace HT
open PySem PySem.Spec PyProof.Rows L2
section
variable {prog:Program} {w:World} {A:Around} {E:Value->Shared->Prop} {s:Shared}
theorem zcH {t sl:Addr} {items:Array Value} {vl vu:Value} {lo hi:Option Int} {Q:Value->Shared->Prop} (ht:IsTup s.heap t items) (hs:s.heap.IsSliceOf sl vl vu .none) (pl:IsPart vl lo) (pu:IsPart vu hi)
  (hw:sIx items.size 0 lo=0/\sIx items.size items.size hi=items.size) (h:Q (.ref t) s):wpAny (model prog w) A (getItem (.ref t) (.ref sl)) Q E s:=by
 obtain ⟨os,hos,hcs,hds⟩:=id hs
 have hTs:s.TypeIs (.ref sl) "slice":=⟨os,hos,hcs⟩
 unfold getItem
 try with_reducible refine qaO ?_
 first | refine qaW (qaX ?_) | skip
 refine qaW (wpAny_sequenceKey ht.typeIs (by decide) ?_)
 refine qaW (wpAny_callSpecial?_slot (name:=Str.ofString "__getitem__") ht.typeIs PyProof.Rows.slot_tuple_getitem
   (wpAny_call_entry PyProof.Rows.slot_tuple_getitem ht.typeIs entry_tuple_getitem ?_ (args_tuple_getitem _ _)))
 show wpAny _ _ (Builtin.Tuple.tupleItemsOf (.ref t)>>=_) _ _ s
 refine qaW (tupleItemsOf_ ht ?_)
 refine qaW (wpAny_typeOf hTs ?_)
 rw [qa4 (by decide)]
 refine qaW (zcf hs pl pu ?_)
 show wpAny _ _ (if (((sIx items.size 0 lo:Nat):Int)==0 && (1:Int)==1 && (sIx items.size items.size hi - sIx items.size 0 lo)==items.size)=true then _ else _) _ _ s
 rw [hw.1,hw.2,qa4 (by simp)]
 refine qaW (m:=Builtin.Tuple.tupleIsExact _) (qaW (wpAny_typeOf ht.typeIs (qaX ?_)))
 rw [qa4 (by decide)]
 refine qaW (wpAny_rule ?_)
 exact qaX ⟨_,rfl,qaX h⟩
end
end HT
namespace L2
open PySem PySem.Spec PyProof.Rows
section
variable {X:Cx} {e:Expr} {te:TE} {pos p2:Pos}
theorem znz:SlR X (fun x lo hi H Q=> ∃ a xs,x= .ref a/\SqT X.K H a xs/\(HT.sIx xs.length 0 lo=0/\HT.sIx xs.length xs.length hi=xs.length)/\Q (.ref a) H):=by
 intro pins s σ H x v vl vu lo hi sl Q I rx hs pl pu h
 obtain ⟨a,xs,rfl,hx,hw,q⟩:=h
 cases rx
 obtain ⟨its,r,ht,hz⟩:=I.tuple hx
 have hlen:its.toArray.size=xs.length:=by rw [qaA];exact r.length.symm
 refine ⟨"tuple",_,PyProof.Rows.slot_tuple_getitem.lookup,ht.typeIs,?_⟩
 exact HT.zcH ht hs pl pu (by rw [hlen];exact hw) ⟨.ref a,H,I,rfl,q⟩
theorem zdG:fillsNumberSlot (.type "tuple") "mul"=pure false:=
 PySem.fillsNumberSlot_seq (id:="tuple.__mul__") (r:=some (.builtin "tuple.__rmul__")) F.slot_tuple_mul.lookup (by decide +kernel) F.slot_tuple_rmul.lookup (by decide +kernel)
theorem zf4:seqRepeat? (.type "tuple")=pure (some (.builtin "tuple.__mul__")):=by
 unfold seqRepeat?
 rw [PySem.seqSlot_of (T:="tuple") (name:="__mul__") (id:="tuple.__mul__") F.slot_tuple_mul.lookup (by decide +kernel),PySem.seqSlot_of (T:="tuple") (name:="__rmul__") (id:="tuple.__rmul__") F.slot_tuple_rmul.lookup (by decide +kernel)]
 rfl
theorem zep (k:Int) (t:Tok) (l:Addr) (items:Array Value) (n:Nat) (dd:Option Addr) (sl:Array (Option Value)):
  Meets (Builtin.«int.__rmul__» ⟨[.int k t,.ref l],[]⟩) (fun _ R s=>s.heap.get? l=some {cls:= .type "tuple",dict:=dd,data:= .seq items n,slots:=sl}/\R (.ok (.ret Value.notImplemented)) s):=
 .of_wp fun prog w A R s h=>by obtain ⟨hp,g,d,tk,os⟩:=s;obtain ⟨hl,h⟩:=h;wp_walk;exact ⟨_,rfl,h⟩
theorem zjB (k:Int) (t:Tok) (l:Addr) (items:Array Value) (n:Nat) (dd:Option Addr) (sl:Array (Option Value)) (hne:items.isEmpty=false) (hk:2<=k) (hk2:k<1000) (hz:items.size*k.toNat<=sizeLine):
  Meets (Builtin.«tuple.__mul__» ⟨[.ref l,.int k t],[]⟩) (fun _ R s=>s.heap.get? l=some {cls:= .type "tuple",dict:=dd,data:= .seq items n,slots:=sl}/\
    R (.ok (.ret (.ref s.heap.objs.size))) {s with heap:=s.heap.push {cls:= .type "tuple",data:= .seq ((List.replicate k.toNat items).foldl (· ++ ·) #[])}}):=
 .of_wp fun prog w A R s h=>by
  obtain ⟨hp,g,d,tk,os⟩:=s;obtain ⟨hl,h⟩:=h
  unfold Builtin.«tuple.__mul__» 
  wp_walk
  have hk63: ¬(decide (k< -2^63) || decide (k>=2^63))=true:=by
   rw [Bool.or_eq_true,qaD,qaD]
   omega
  rw [qa5 hk63]
  dsimp only
  have ht:IsTup hp l items:=⟨_,hl,rfl,_,rfl⟩
  refine qaW (tupleItemsOf_ ht ?_)
  have h1: ¬(items.isEmpty || k==1)=true:=by
   rw [hne,Bool.false_or,beq_iff_eq]
   omega
  rw [qa5 h1]
  have h2: ¬(decide (k<=0) || items.isEmpty)=true:=by
   rw [hne,Bool.or_false,qaD]
   omega
  rw [qa5 h2]
  have hk0:((k.toNat:Nat):Int)=k:=Int.toNat_of_nonneg (by omega)
  have hm:((items.size:Nat):Int)*k=((items.size*k.toNat:Nat):Int):=by rw [Int.natCast_mul,hk0]
  have hsl:(sizeLine:Nat)=16777216:=by decide
  have h3: ¬((items.size:Int)*k>(2^63 - 1) / 8):=by
   rw [hm]
   omega
  rw [qa5 h3]
  have h4: ¬Builtin.Tuple.tupleTooMany ((items.size:Int)*k)=true:=by
   unfold Builtin.Tuple.tupleTooMany
   rw [hm,qaD]
   omega
  rw [qa5 h4]
  have hsz:sizeOk (.seq (List.foldl (fun x1 x2=>x1++x2) #[] (List.replicate k.toNat items))):=by
   show (List.foldl (fun x1 x2=>x1++x2) #[] (List.replicate k.toNat items)).size<=sizeLine
   have e: ∀ (m:Nat) (acc:Array Value),(List.foldl (fun x1 x2=>x1++x2) acc (List.replicate m items)).size=acc.size+m*items.size:=by
    intro m
    induction m with
    | zero=>intro acc;simp
    | succ m ih=>intro acc;rw [List.replicate_succ,List.foldl_cons,ih,Array.size_append,Nat.succ_mul];omega
   rw [e,Nat.mul_comm]
   simpa using hz
  exact qaW (m:=Builtin.Tuple.tupleExact _) (qaC (qaX ⟨_,rfl,h⟩) hsz)
theorem znq:OpR X (binaryOp .Mult) (fun x y H Q=> ∃ a k xs,x= .ref a/\y= .int k/\SqT X.K H a xs/\xs≠[]/\2<=k/\k<1000/\xs.length*k.toNat<=sizeLine/\ ∀ p,H p=none->Q (.ref p) (upd H p (.tup (List.replicate k.toNat xs).flatten))):=by
 intro pins s σ H x y v u Q I rx ry h
 obtain ⟨a,k,xs,rfl,rfl,hx,hne,h1,h2,hz,q⟩:=h
 cases rx
 obtain ⟨t,rfl⟩:=ry
 obtain ⟨its,r,ht,_⟩:=I.tuple hx
 have hl:=r.length
 obtain ⟨⟨cls,dd,data,sl⟩,ho,hc,n,hd⟩:=id ht
 simp only at hc hd
 subst hc hd
 have hemp:its.toArray.isEmpty=false:=by
  cases its with
  | nil=>cases r;exact absurd rfl hne
  | cons _ _=>simp
 refine wpAny_binaryOp_repeat_ref (T:="tuple") (U:="int") (by decide) ⟨_,ho,rfl⟩ (fun s'=>typeIs_int s' k t) zdG F.fills_int_mul F.slot_int_rmul zf4 F.slot_int_index.lookup
  (call_meets F.slot_int_rmul (typeIs_int s k t) F.entry_int_rmul (F.args_int_rmul_2 _ _) (zep k t a its.toArray n dd sl)
    ⟨ho,rfl,⟨_,ho,rfl⟩,call_meets F.slot_tuple_mul ⟨_,ho,rfl⟩ F.entry_tuple_mul (F.args_tuple_mul_2 _ _) (zjB k t a its.toArray n dd sl hemp h1 h2 (by rw [qaA, <-hl];exact hz)) ⟨ho,?_⟩⟩)
 have hnew:List.foldl (fun x1 x2=>x1++x2) #[] (List.replicate k.toNat its.toArray)=(List.replicate k.toNat its).flatten.toArray:=by
  have:=zfT its k.toNat []
  rw [List.nil_append] at this
  exact this
 rw [hnew]
 refine ⟨.ref _,_,I.laid (t':=s.toks) (o:= .tup (List.replicate k.toNat xs).flatten) (fun b ob q=>qag _ q) (qaV _) ?_,rfl,q _ (I.hok.fresh (qaV _))⟩
 exact ⟨by rw [zm1,Nat.mul_comm];exact hz,_,r.rep k.toNat,IsTup.new _ _⟩
end
end L2
namespace LT
open PySem PySem.Spec PyProof.Rows
noncomputable abbrev Up (xs:Array Nat):Prop:=xs.toList.Pairwise (· < ·)
theorem Up.lt {xs:Array Nat} (h:Up xs) {i j:Nat} {a b:Nat} (hi:xs[i]? = some a) (hj:xs[j]? = some b) (hij:i<j):a<b:=by
 have hi':xs.toList[i]? = some a:=by simpa using hi
 have hj':xs.toList[j]? = some b:=by simpa using hj
 obtain ⟨h1,e1⟩:=qac.mp hi'
 obtain ⟨h2,e2⟩:=qac.mp hj'
 have:=List.pairwise_iff_getElem.mp h i j h1 h2 hij
 rw [e1,e2] at this
 exact this
theorem zfc {xs:Array Nat} (h:Up xs) (j:Nat): ∀ (fuel lo hi:Nat),hi - lo<=fuel->lo<=hi->hi<=xs.size->(∀ i a,i<lo->xs[i]? = some a->a<j)->(∀ i a,hi<=i->xs[i]? = some a->j<=a)->
  let r:=SetTable.below.go xs j fuel lo hi
  r<=xs.size/\(∀ i a,i<r->xs[i]? = some a->a<j)/\(∀ i a,r<=i->xs[i]? = some a->j<=a)
 | 0,lo,hi,hf,hl,hs,h1,h2=>by
  have e:lo=hi:=by omega
  subst e
  exact ⟨hs,h1,h2⟩
 | fuel+1,lo,hi,hf,hl,hs,h1,h2=>by
  unfold SetTable.below.go
  by_cases hlt:lo<hi
  ·rw [qa4 hlt]
   have hm:(lo+hi) / 2<xs.size:=by omega
   have em:xs[(lo+hi) / 2]? = some xs[(lo+hi) / 2]:=by simp [hm]
   have eg:xs.getD ((lo+hi) / 2) j=xs[(lo+hi) / 2]:=by simp [Array.getD,hm]
   dsimp only
   by_cases hc:xs.getD ((lo+hi) / 2) j<j
   ·rw [qa4 hc]
    refine zfc h j fuel _ hi (by omega) (by omega) hs (fun i a hi' e=> ?_) h2
    rw [eg] at hc
    by_cases z:i=(lo+hi) / 2
    ·subst z;rw [em] at e;cases e;exact hc
    ·exact Nat.lt_trans (h.lt e em (by omega)) hc
   ·rw [qa5 hc]
    refine zfc h j fuel lo _ (by omega) (by omega) (by omega) h1 fun i a hi' e=> ?_
    rw [eg] at hc
    by_cases z:i=(lo+hi) / 2
    ·subst z;rw [em] at e;cases e;omega
    ·have:=h.lt em e (by omega)
     omega
  ·rw [qa5 hlt]
   have e:lo=hi:=by omega
   subst e
   exact ⟨hs,h1,h2⟩
theorem zfh {xs:Array Nat} (h:Up xs) (j:Nat):SetTable.below xs j<=xs.size/\(∀ i a,i<SetTable.below xs j->xs[i]? = some a->a<j)/\(∀ i a,SetTable.below xs j<=i->xs[i]? = some a->j<=a):=
 zfc h j xs.size 0 xs.size (by omega) (Nat.zero_le _) (qaV _) (fun _ _ z=>absurd z (Nat.not_lt_zero _)) fun i a z e=>by
  have:=(qab.mp e).1
  omega
theorem zeG {xs:Array Nat} (h:Up xs) {k a:Nat} (e:xs[k]? = some a):SetTable.below xs (a+1)=k+1:=by
 obtain ⟨h1,h2,h3⟩:=zfh h (a+1)
 by_cases c:SetTable.below xs (a+1)<=k
 ·have:=h3 k a c e
  omega
 ·by_cases c2:k+1<SetTable.below xs (a+1)
  ·have hl:k+1<xs.size:=by omega
   have e2:xs[k+1]? = some xs[k+1]:=by simp [hl]
   have a1:=h2 (k+1) _ c2 e2
   have a2:=h.lt e e2 (by omega)
   omega
  ·omega
theorem zex {xs:Array Nat} (h:Up xs):SetTable.below xs 0=0:=by
 obtain ⟨h1,h2,h3⟩:=zfh h 0
 by_cases c:SetTable.below xs 0=0
 ·exact c
 ·have hl:0<xs.size:=by omega
  exact absurd (h2 0 _ (by omega) (show xs[0]? = some xs[0] by simp [hl])) (Nat.not_lt_zero _)
theorem zjt {xs:Array Nat} (h:Up xs) {j:Nat} (hn:xs[SetTable.below xs j]? ≠ some j):Up (SetTable.insertAt xs (SetTable.below xs j) j):=by
 obtain ⟨h1,h2,h3⟩:=zfh h j
 show (SetTable.insertAt xs (SetTable.below xs j) j).toList.Pairwise (· < ·)
 rw [SetTable.toList_insertAt]
 rw [qaq]
 have hsplit:xs.toList.take (SetTable.below xs j)++xs.toList.drop (SetTable.below xs j)=xs.toList:=qam ..
 have hp:(xs.toList.take (SetTable.below xs j)++xs.toList.drop (SetTable.below xs j)).Pairwise (· < ·):=by rw [hsplit];exact h
 obtain ⟨p1,p2,p3⟩:=qaq.mp hp
 have tk: ∀ a∈xs.toList.take (SetTable.below xs j),a<j:=fun a ha=>by
  obtain ⟨i,hi⟩:=List.mem_iff_getElem?.mp ha
  rw [List.getElem?_take] at hi
  split at hi
  ·rename_i hlt
   exact h2 i a hlt (by simpa using hi)
  ·cases hi
 have dr: ∀ a∈xs.toList.drop (SetTable.below xs j),j<a:=fun a ha=>by
  obtain ⟨i,hi⟩:=List.mem_iff_getElem?.mp ha
  rw [List.getElem?_drop] at hi
  have hi':xs[SetTable.below xs j+i]? = some a:=by simpa using hi
  have a1:=h3 _ a (by omega) hi'
  rcases Nat.lt_or_eq_of_le a1 with z | z
  ·exact z
  ·subst z
   exfalso
   cases i with
   | zero=>exact hn hi'
   | succ i=>
    have hl:=(qab.mp hi').1
    have e0:xs[SetTable.below xs j]? = some xs[SetTable.below xs j]:=by
     have:SetTable.below xs j<xs.size:=by omega
     simp [this]
    have b1:=h3 _ _ (qaV _) e0
    have b2:=h.lt e0 hi' (by omega)
    omega
 refine ⟨p1,qay.mpr ⟨dr,p2⟩,fun a ha b hb=> ?_⟩
 rcases qaP.mp hb with z | z
 ·rw [z];exact tk a ha
 ·exact p3 a ha b z
structure zgJ (t:SetTable) (led:Bool):Prop where
 up:Up t.place
 nod:t.dummies= #[]
 led:t.led=led
theorem zho {j:Nat}:SetTable.has #[] j=false:=by
 unfold SetTable.has
 simp
theorem zin {t:SetTable} {led:Bool} (g:zgJ t led) {j:Nat} (h:t.slot j= .empty):t.place[SetTable.below t.place j]? ≠ some j:=fun e=>by
 unfold SetTable.slot at h
 dsimp only at h
 rw [e] at h
 simp at h
theorem zhf {t:SetTable} {led:Bool} (g:zgJ t led) (f:Nat->Int) (h:Int): ∀ (fuel:Nat) (p:SetTable.Probe) (j:Nat) (d:Option Nat),p.dummy=none->SetTable.probe.go t f h fuel p=some (.empty j d)->t.slot j= .empty/\d=none
 | 0,_,_,_,_,e=>by cases e
 | fuel+1,p,j,d,hp,e=>by
  unfold SetTable.probe.go at e
  have adv: ∀ q:SetTable.Probe,q.dummy=none->(t.advance q).dummy=none:=fun q hq=>by
   unfold SetTable.advance
   split<;>exact hq
  split at e
  ·rename_i hs
   cases e
   exact ⟨hs,hp⟩
  ·rename_i hs
   exfalso
   unfold SetTable.slot at hs
   dsimp only at hs
   rw [g.nod,zho] at hs
   split at hs<;>simp at hs
  ·split at e
   ·cases e
   ·exact zhf g f h fuel _ j d (adv p hp) e
theorem zeY {t:SetTable} {led:Bool} (g:zgJ t led) {h:Int} {j:Nat} {b:Bool} (e:t.freeSlot h=some (j,b)):t.place[SetTable.below t.place j]? ≠ some j:=by
 unfold SetTable.freeSlot at e
 split at e
 ·rename_i j' d' hpr
  obtain ⟨h1,h2⟩:=zhf g _ _ _ _ _ _ rfl hpr
  subst h2
  cases e
  exact zin g h1
 ·cases e
theorem zkh (n:Nat):Up (Array.range n):=by
 show (Array.range n).toList.Pairwise (· < ·)
 rw [Array.toList_range]
 exact List.pairwise_lt_range
theorem zbJ {t:SetTable} {led:Bool} (g:zgJ t led) (n:Nat):zgJ (t.standIn n) led:=⟨zkh n,rfl,g.led⟩
theorem zgk {t:SetTable} {led:Bool} (g:zgJ t led) (es:Array (Int×Value)) (h:Int) (x:Value):zgJ (layNew t es h x).2.1 led:=by
 unfold layNew
 split
 ·rename_i slot wasDummy e
  have g2:zgJ (t.put slot).1 led:=by
   refine ⟨zjt g.up (zeY g e),?_,g.led⟩
   show (if SetTable.has t.dummies slot then _ else t.dummies)= #[]
   rw [g.nod,zho]
   rfl
  show zgJ ((t.put slot).1.orStandIn _) led
  unfold SetTable.orStandIn
  split
  ·exact g2
  ·exact zbJ g2 _
 ·exact zbJ g _
theorem zjD {mask finger moves:Nat} {led plain:Bool} {hs:Array Int} {t:SetTable} {o:Array Nat} (e:SetTable.laid mask finger moves led plain hs=some (t,o)):zgJ t led:=by
 unfold SetTable.laid at e
 cases z:SetTable.layClean mask hs with
 | none=>rw [z] at e;cases e
 | some owner=>
  rw [z] at e
  have e:some (({mask,place:=(((List.range (mask+1)).filterMap fun j=>(owner.getD j none).map (j, ·)).map (·.1)).toArray,dummies:= #[],finger,led,moves,plain}:SetTable),_)=some (t,o):=e
  cases e
  refine ⟨?_,rfl,rfl⟩
  show (((List.range (mask+1)).filterMap fun j=>(owner.getD j none).map (j, ·)).map (·.1)).toArray.toList.Pairwise (· < ·)
  rw [List.toList_toArray,List.map_filterMap]
  have sub:List.Sublist ((List.range (mask+1)).filterMap fun j=>((owner.getD j none).map (j, ·)).map (·.1)) (List.range (mask+1)):=by
   generalize List.range (mask+1)=l
   induction l with
   | nil=>exact .slnil
   | cons a r ih=>
    rw [qat]
    cases q:owner.getD a none with
    | none=>exact ih.cons a
    | some v=>exact ih.cons₂ a
  exact List.pairwise_lt_range.sublist sub
theorem zeP {t:SetTable} {led:Bool} (g:zgJ t led) (es:Array (Int×Value)) (wanted:Nat):zgJ (relayAll t es wanted).2.1 led:=by
 unfold relayAll
 split
 ·rename_i t' order e
  have g2:zgJ t' t.led:=zjD e
  rw [g.led] at g2
  dsimp only
  split
  ·exact g2
  ·exact zbJ g _
 ·exact zbJ g _
noncomputable def zb9 (w:World):Bool:= !w.params.followText "set-order"
def zfl (prog:Program) (w:World) (h:Heap) (a:Addr) (S:Int->Bool) (n:Nat):Prop:=
 ∃ ob es ep tb,(h.get? a=some ob/\ob.ExactSet/\ob.data= .set es ep tb)/\ElemsOf (intKind prog w) es.toList/\(∀ k,S k=true↔ ∃ e∈es.toList,(intKind prog w).is k e.2=true)/\
  (es.size<scanBound/\tb.fits es.size=true/\es.size=n)/\zgJ tb (zb9 w)
theorem zfl.move {prog:Program} {w:World} {h h':Heap} {a:Addr} {S S':Int->Bool} {n n':Nat} (g:zfl prog w h a S n) (k: ∀ ob,h.get? a=some ob->h'.get? a=some ob) (e: ∀ k,S k=S' k) (en:n=n'):zfl prog w h' a S' n':=by
 obtain ⟨ob,es,ep,tb,⟨h1,h2,h3⟩,h4,h5,⟨h6,h7,h8⟩,h9⟩:=g
 exact ⟨ob,es,ep,tb,⟨k ob h1,h2,h3⟩,h4,fun z=>by rw [<- e z];exact h5 z,⟨h6,h7,h8.trans en⟩,h9⟩
section
variable {prog:Program} {w:World} {A:Around} {E:Value->Shared->Prop} {s:Shared}
theorem stored {a:Addr} {ob:Obj} {es es':Array (Int×Value)} {ep:Nat} {tb tb':SetTable} {S:Int->Bool} {R:Unit->Shared->Prop} (ho:s.heap.get? a=some ob) (hx:ob.ExactSet) (hd:ob.data= .set es ep tb)
  (hE:ElemsOf (intKind prog w) es'.toList) (hS: ∀ k,S k=true↔ ∃ e∈es'.toList,(intKind prog w).is k e.2=true) (hb:es'.size<scanBound) (hf:tb'.fits es'.size=true) (hg:zgJ tb' (zb9 w))
  (q: ∀ h',Heap.SameBut a s.heap h'->h'.get? a=some {ob with data:= .set es' (ep+1) tb'}->zfl prog w h' a S es'.size->R () {s with heap:=h'}):wpAny (model prog w) A (storeSet a es' tb') R E s:=by
 have put:=putSet_of es' tb' hd
 have at1:(s.heap.update a (Obj.putSet es' tb')).get? a=some {ob with data:= .set es' (ep+1) tb'}:=by
  have z:=qal (Obj.putSet es' tb') ho (by rw [put];rfl)
  rwa [put] at z
 exact wpAny_storeSet_of ho hd (q _ (Heap.SameBut.update ..) at1 ⟨_,es',ep+1,tb',⟨at1,hx,rfl⟩,hE,hS,⟨hb,hf,rfl⟩,hg⟩) (fits_of_scanBound hb)
theorem zsa {a:Addr} {S:Int->Bool} {n:Nat} {k:Int} {t:Tok} {Q:Bool->Shared->Prop} (g:zfl prog w s.heap a S n) (room:n+1<scanBound)
  (q: ∀ h' b,Heap.SameBut a s.heap h'->zfl prog w h' a (fun z=>S z || decide (z=k)) (if S k then n else n+1)->Q b {s with heap:=h'}):
  wpAny (model prog w) A (setAddHashed a (.int k t) ((intKind prog w).hash k)) Q E s:=by
 have kis:(intKind prog w).is k (.int k t)=true:=intKind_is _ _ _ _
 obtain ⟨ob,es,ep,tb,⟨h1,h2,h3⟩,h4,h5,⟨h6,h7,h8⟩,h9⟩:=g
 have scn:(Value.int k t).scannable=true:=rfl
 unfold setAddHashed setAddHashedIn
 refine qaO (qaW (wpAny_setState_of h1 h3 h7 ?_))
 dsimp only
 rw [qa4 (byScan_of scn h6 h4)]
 refine qaW ?_
 unfold setAddByScan
 refine qaW (wpAny_rule (qaW (wpAny_setScan_of kis h1 h3 h7 h4 ?_)))
 cases fi:List.findIdx? (fun e=>(intKind prog w).is k e.2) es.toList with
 | some j=>
  obtain ⟨lj,pj,_⟩:=List.findIdx?_eq_some_iff_getElem.mp fi
  have inS:S k=true:=(h5 k).mpr ⟨_,List.getElem_mem lj,pj⟩
  refine qaX (qaX ?_)
  have z:=q s.heap false (Heap.SameBut.refl ..) ⟨ob,es,ep,tb,⟨h1,h2,h3⟩,h4,fun y=> ?_,⟨h6,h7,by rw [inS];exact h8⟩,h9⟩
  ·exact z
  ·rw [<- h5 y,Bool.or_eq_true,qaD]
   exact ⟨fun c=>c.elim id fun c=>by rw [c];exact inS,.inl⟩
 | none=>
  have noS:S k=false:=by
   rw [<- Bool.not_eq_true,h5 k]
   rintro ⟨e,he,pe⟩
   have:=List.findIdx?_eq_none_iff.mp fi e he
   rw [pe] at this
   cases this
  have L1:=layNew_perm tb es ((intKind prog w).hash k) (.int k t)
  have L2:=layNew_fits tb es ((intKind prog w).hash k) (.int k t)
  have L3:=zgk h9 es ((intKind prog w).hash k) (.int k t)
  generalize hl:layNew tb es ((intKind prog w).hash k) (.int k t)=ln at L1 L2 L3 ⊢
  obtain ⟨es1,tb1,wd,gv⟩:=ln
  dsimp only at L1 L2 L3 ⊢
  rw [Array.toList_push] at L1
  have E1:ElemsOf (intKind prog w) es1.toList:=(h4.push kis scn).perm L1
  have M1: ∀ y,(S y || decide (y=k))=true↔ ∃ e∈es1.toList,(intKind prog w).is y e.2=true:=mem_push_iff kis h5 L1
  have Z1:es1.size=n+1:=by
   have z:=L1.length_eq
   rw [qav,qas,qas] at z
   rw [z,h8];rfl
  have B1:es1.size<scanBound:=by rw [Z1];exact room
  have quiet: ∀ (b:Bool) (s1:Shared) (R:Unit->Shared->Prop),R () s1->wpAny (model prog w) A (match b with | true=>rule "set.scan.the-table-gave-way" | false=>pure ()) R E s1:=fun b s1 R z=>by
   cases b
   ·exact qaX z
   ·exact wpAny_rule z
  have fin: ∀ (s1:Shared) (h':Heap),s1={s with heap:=h'}->Heap.SameBut a s.heap h'->zfl prog w h' a (fun y=>S y || decide (y=k)) es1.size->Q true s1:=fun s1 h' e1 sb gg=>by
   subst e1
   have z:=q h' true sb
   rw [noS] at z
   exact z (by rw [Z1] at gg;exact gg)
  refine qaW (quiet _ _ _ ?_)
  have tail: ∀ (gw:Bool->Sem Unit),(∀ (b:Bool) (s1:Shared) (R:Unit->Shared->Prop),R () s1->wpAny (model prog w) A (gw b) R E s1)->wpAny (model prog w) A (do
      storeSet a es1 tb1
      if (!wd && tb1.tooFull)=true then do
        gw (relayAll tb1 es1 (SetTable.grown es1.size)).2.2
        storeSet a (relayAll tb1 es1 (SetTable.grown es1.size)).1 (relayAll tb1 es1 (SetTable.grown es1.size)).2.1
        pure (some true)
      else pure (some true)) (fun r s'=>wpAny (model prog w) A (match r with | some b=>pure b | none=>setAddHashedIn a (.int k t) ((intKind prog w).hash k) 99999) Q E s') E s:=by
   intro gw hgw
   refine qaW (stored h1 h2 h3 E1 M1 B1 L2 L3 fun h' sb at1 gg=> ?_)
   by_cases full:(!wd && tb1.tooFull)=true
   ·rw [qa4 full]
    have P2:=relayAll_perm tb1 es1 (SetTable.grown es1.size)
    have F2:=relayAll_fits tb1 es1 (SetTable.grown es1.size)
    have G2:=zeP L3 es1 (SetTable.grown es1.size)
    generalize relayAll tb1 es1 (SetTable.grown es1.size)=rl at P2 F2 G2 ⊢
    obtain ⟨es2,tb2,gv2⟩:=rl
    dsimp only at P2 F2 G2 ⊢
    have Z2:es2.size=es1.size:=by
     have z:=P2.length_eq
     rwa [qas,qas] at z
    refine qaW (hgw _ _ _ (qaW (stored (s:={s with heap:=h'}) (S:=fun y=>S y || decide (y=k)) at1 h2 rfl (E1.perm P2) (fun y=>(M1 y).trans ?_) (by rw [Z2];exact B1) F2 G2 fun h'' sb2 _ gg2=> ?_)))
    ·exact ⟨fun ⟨e,he,pe⟩=>⟨e,P2.mem_iff.mpr he,pe⟩,fun ⟨e,he,pe⟩=>⟨e,P2.mem_iff.mp he,pe⟩⟩
    ·exact qaX (qaX (fin _ h'' rfl (sb.trans sb2) (by rw [Z2] at gg2;exact gg2)))
   ·rw [qa5 full]
    exact qaX (qaX (fin _ h' rfl sb gg))
  split
  ·rw [hashByValue_scannable 8 scn]
   refine qaW (qaX ?_)
   exact tail _ fun b s1 R z=>by cases b<;>first | exact qaX z | exact wpAny_rule z
  ·refine qaW (qaX ?_)
   exact tail _ fun b s1 R z=>by cases b<;>first | exact qaX z | exact wpAny_rule z
end
section
variable {prog:Program} {w:World} {A:Around} {R:Result->Shared->Prop} {it:Addr} {fp wr:List Addr} {G:Array GenState->Array GenState->Prop} {n:Nat} {P:Nat->Value->Prop} {St:Nat->Shared->Prop}
theorem zr5 (W:WalksS prog w A.in1 it fp wr G n P St) (a:Addr) (ha:a∉fp) (val:Nat->Int) (hval: ∀ i v,P i v-> ∃ t,v= .int (val i) t) (room:n+1<scanBound):
  ∀ (left i:Nat) (s:Shared),n - i=left->i<=n->St i s->zfl prog w s.heap a (fun z=>(firstMet val i).any (· == z)) (firstMet val i).length->
   (∀ s',Moved (a::wr) G s s'->zfl prog w s'.heap a (fun z=>(firstMet val n).any (· == z)) (firstMet val n).length->R (.ok (.ret .none)) s')->
   codeAny (model prog w) A (.builtin "set.update.loop" ⟨[.ref a,.ref it],[]⟩) R s:=by
 have awr:a∉wr:=fun z=>ha (W.sub _ z)
 have more: ∀ b∈wr,b∈a::wr:=fun b z=> .tail _ z
 intro left
 induction left with
 | zero=>
  intro i s hleft hin st g q
  obtain rfl:i=n:=by omega
  refine codeAny_builtin F.entry_set_update_loop ?_
  rw [qap F.plain_set_update_loop _]
  show wpAny _ _ (pyNext (.ref it)>>=_) _ _ _
  refine qaW (W.done s _ _ st fun s' mv=> ?_)
  exact qaX (q s' (mv.mono more) (g.move (fun ob e=>mv.heap a ob awr e) (fun _=>rfl) rfl))
 | succ left ih=>
  intro i s hleft hin st g q
  have hi:i<n:=by omega
  refine codeAny_builtin F.entry_set_update_loop ?_
  rw [qap F.plain_set_update_loop _]
  show wpAny _ _ (pyNext (.ref it)>>=_) _ _ _
  refine qaW (W.item i s _ _ hi st fun v s1 pv st1 mv=> ?_)
  obtain ⟨t,rfl⟩:=hval i v pv
  have g1:zfl prog w s1.heap a (fun z=>(firstMet val i).any (· == z)) (firstMet val i).length:=g.move (fun ob e=>mv.heap a ob awr e) (fun _=>rfl) rfl
  show wpAny _ _ (holding [Value.int (val i) t] (setAdd a (.int (val i) t))>>=_) _ _ _
  refine qaW (qaO ?_)
  unfold setAdd
  refine qaO (qaW ((intKind prog w).pyHash (k:=val i) (intKind_is _ _ _ _) ?_))
  have few:=firstMet_length_le val i
  refine zsa (s:={s1 with toks:=s1.toks+1}) g1 (by omega) fun h2 b sb g2=> ?_
  have g3:zfl prog w h2 a (fun z=>(firstMet val (i+1)).any (· == z)) (firstMet val (i+1)).length:=
   g2.move (fun _ e=>e) (fun z=>by rw [firstMet_succ,step_any]) (by rw [firstMet_succ,step_length])
  have off: ∀ b,b≠a->h2.get? b=s1.heap.get? b:=fun b hb=>sb.2 b hb
  refine qaX ⟨plainId_quiet F.plain_set_update_loop _,ih (i+1) _ (by omega) hi (W.frame _ s1 _ _ st1 (Nat.le_succ _) fun b hb ob e=> ?_) g3 fun s3 mv3 g4=> ?_⟩
  ·rw [off b fun z=>ha (z▸hb)]
   exact e
  ·refine q s3 (.trans W.gtrans ((mv.mono more).then_heap (Nat.le_succ _) fun b ob hb e=> ?_) mv3) g4
   rw [off b fun z=>hb (z▸ .head _)]
   exact e
end
section
variable {prog:Program} {w:World} {A:Around} {E:Value->Shared->Prop} {s:Shared}
theorem zml (h:Heap):zfl prog w (h.push {cls:= .type "set",dict:=none,data:= .set #[] 0 (.fresh 0 0 (zb9 w))}) h.objs.size (fun _=>false) 0:=
 ⟨_, #[],0,_,⟨qar _ rfl,⟨rfl,rfl,rfl⟩,rfl⟩,fun e he=>by simp at he,fun k=>by simp,⟨by decide,rfl,rfl⟩,⟨List.Pairwise.nil,rfl,rfl⟩⟩
theorem zsF (x:Value) {Q:Value->Shared->Prop} (q:Q (.ref s.heap.objs.size) {s with heap:=s.heap.push {cls:= .type "set",dict:=none,data:= .set #[] 0 (.fresh 0 0 (zb9 w))}}):
  codeAny (model prog w) A (.call (.builtin "set.__new__") ⟨[.type "set",x],[]⟩) (wants Q E) s:=by
 refine codeAny_of_tree ?_
 show wpAny _ _ (do checkBuiltinCall "set.__new__" ⟨[.type "set",x],[]⟩;again (.builtin "set.__new__" ⟨[.type "set",x],[]⟩)) _ _ _
 refine qaW (wpAny_of_eq (F.newCall_set_1 x) (qaX ⟨plainId_quiet F.plain_set_new _,codeAny_builtin F.entry_set_new ?_⟩))
 rw [qap F.plain_set_new _]
 unfold Builtin.«set.__new__» Builtin.Frozenset.newClass
 have self:=sub_set_self
 obtain ⟨hp,gs,dr,tk,os⟩:=s
 dsimp only
 wp_walk
 refine wpAny_askSetting (qaX ?_)
 dsimp only
 simp only [newObj]
 exact qaW (wpAny_alloc (qaX (qaX q)))
theorem zrZ {l:Addr} {T:String} {items:Array Value} {ns:List Int} {Q:Value->Shared->Prop} (hh:A.handled=none) (hT:(T="list"/\s.heap.IsList l items)\/(T="tuple"/\s.heap.IsTuple l items)) (hi:IntsAre items.toList ns) (room:items.size+1<scanBound)
  (q: ∀ (h':Heap) (tk:Nat),zfl prog w h' s.heap.objs.size (fun z=>(firstMet (fun i=>ns.getD i 0) items.size).any (· == z)) (firstMet (fun i=>ns.getD i 0) items.size).length->(∀ b ob,s.heap.get? b=some ob->h'.get? b=some ob)->
    Q (.ref s.heap.objs.size) {s with heap:=h',toks:=tk}):wpAny (model prog w) A (call (.type "set") [.ref l]) Q E s:=by
 obtain ⟨c,tl,hmro⟩:=F.called_set.mro
 have hmade:=F.called_set.made
 have hsub:=F.called_set.sub
 refine wpAny_call (codeAny_of_tree ?_)
 show wpAny _ _ (callAny (.type "set") _) _ _ _
 refine qaX ⟨Code.quiet_builtin _ (by decide +kernel),codeAny_builtin F.entry_type_call ?_⟩
 rw [Around.under_plain (weight_type_call_type "set" [.ref l] []) rfl]
 have hnt:=F.called_set.notType
 have hcc:=F.called_set.canCreate
 have htc:=F.typeCall_set_1 (.ref l)
 repeat' (first | assumption | wp_step)
 refine codeAny_mono (zsF (.ref l) (E:=E) (Q:=fun v s1=>v= .ref s.heap.objs.size/\s1={s with heap:=s.heap.push {cls:= .type "set",dict:=none,data:= .set #[] 0 (.fresh 0 0 (zb9 w))}}) ⟨rfl,rfl⟩) fun r s1 hr=> ?_
 cases r with
 | error e=>exact hr
 | ok fl=>
  cases fl with
  | ret v=>
   obtain ⟨rfl,rfl⟩:=hr
   have laid:(s.heap.push {cls:= .type "set",dict:=none,data:= .set #[] 0 (.fresh 0 0 (zb9 w))}).get? s.heap.objs.size=some {cls:= .type "set",dict:=none,data:= .set #[] 0 (.fresh 0 0 (zb9 w))}:=qar _ rfl
   have isSet:Shared.TypeIs {s with heap:=s.heap.push {cls:= .type "set",dict:=none,data:= .set #[] 0 (.fresh 0 0 (zb9 w))}} (.ref s.heap.objs.size) "set":=⟨_,laid,rfl⟩
   have hli:=F.called_set.init.lookup
   have hbi:=F.called_set.init.bind (.ref s.heap.objs.size)
   repeat' (first | assumption | wp_step)
   refine codeAny_mono (codeAny_call_builtin (R:=wants (fun z s2=>z= .none/\ ∃ h' tk,s2={s with heap:=h',toks:=tk}/\
       zfl prog w h' s.heap.objs.size (fun z=>(firstMet (fun i=>ns.getD i 0) items.size).any (· == z)) (firstMet (fun i=>ns.getD i 0) items.size).length/\(∀ b ob,s.heap.get? b=some ob->h'.get? b=some ob)) E) F.called_set.init.plain F.entry_set_init (check_set_init_1 isSet ?_)) fun r2 s2 hr2=> ?_
   ·have keepL: ∀ ob,s.heap.get? l=some ob->(s.heap.push {cls:= .type "set",dict:=none,data:= .set #[] 0 (.fresh 0 0 (zb9 w))}).get? l=some ob:=fun ob e=>qag _ e
    have hval: ∀ (i:Nat) (v:Value),items[i]? = some v-> ∃ t,v= .int ((fun i=>ns.getD i 0) i) t:=fun i v hv=>IntsAre.int_at hi i v (by rw [qaj];exact hv)
    have hh3:A.in1.in1.in1.handled=none:=by simp [hh]
    have done1: ∀ (l0:Addr) (h0:Heap) (s':Shared),l0=s.heap.objs.size->Moved [l0,(s.heap.push {cls:= .type "set",dict:=none,data:= .set #[] 0 (.fresh 0 0 (zb9 w))}).objs.size] (fun a b=>b=a) {s with heap:=h0} s'->(∀ b ob,s.heap.get? b=some ob->h0.get? b=some ob)->
      (∀ b ob,s.heap.get? b=some ob->s'.heap.get? b=some ob)/\s'={s with heap:=s'.heap,toks:=s'.toks}:=fun l0 h0 s' e0 mv k0=>by
     refine ⟨fun b ob e=>mv.heap b ob (fun z=> ?_) (k0 b ob e),?_⟩
     ·have lt:=qaQ e
      rw [qaL,e0] at z
      simp only [qaP,qaF,or_false] at z
      rcases z with z | z
      ·exact qaN _ (z▸lt)
      ·exact qaN _ (Nat.lt_of_succ_lt (z▸lt))
     ·obtain ⟨h',g',d',tk',os'⟩:=s'
      have eg:g'=s.gens:=mv.gens
      have ed:d'=s.drawn:=mv.drawn
      have eo:os'=s.os:=mv.os
      subst eg ed eo
      rfl
    unfold Builtin.«set.__init__» noKeywords Builtin.Frozenset.updateFrom
    generalize hPI:pyIter=PI
    rcases hT with ⟨rfl,hl⟩ | ⟨rfl,hl⟩
    ·obtain ⟨⟨ocl,odi,oda,osl⟩,hol,hcl,nl,hdl⟩:=hl
     simp only at hcl hdl
     subst hcl hdl
     have hol':=keepL _ hol
     have f1:=F.sub_list_set
     have f2:=F.sub_list_frozenset
     have f3:(Value.type "list"==Value.type "dict")=false:=by decide
     wp_walk
     subst hPI
     have hl1:(s.heap.push {cls:= .type "set",dict:=none,data:= .set #[] 0 (.fresh 0 0 (zb9 w))}).IsList l items:=⟨_,hol',rfl,nl,rfl⟩
     refine wpAny_pyIter_list hl1 ?_
     refine qaW (wpAny_runValue ?_)
     have ltl:l<s.heap.objs.size:=qaQ hol
     have szp:(s.heap.push {cls:= .type "set",dict:=none,data:= .set #[] 0 (.fresh 0 0 (zb9 w))}).objs.size=s.heap.objs.size+1:=qaL ..
     have ne1:l≠(s.heap.push {cls:= .type "set",dict:=none,data:= .set #[] 0 (.fresh 0 0 (zb9 w))}).objs.size:=by rw [szp];exact qaR (Nat.lt_succ_of_lt ltl)
     have ne2:s.heap.objs.size∉[(s.heap.push {cls:= .type "set",dict:=none,data:= .set #[] 0 (.fresh 0 0 (zb9 w))}).objs.size,l]:=by
      rw [szp]
      simp only [qaP,qaF,or_false]
      rintro (z | z)
      ·exact Nat.succ_ne_self _ z.symm
      ·exact qaN _ (z▸ltl)
     refine zr5 ((Walks.list hh3 _ l ne1 items).toS) s.heap.objs.size ne2 (fun i=>ns.getD i 0) hval room _ 0 _ rfl (Nat.zero_le _) ⟨⟨_,qar _ rfl,rfl,rfl⟩,hl1.push _⟩ ?g0 fun s' mv gg=> ?_
     case g0=>exact (zml s.heap).move (fun ob e=>qag _ e) (fun _=>rfl) rfl
     obtain ⟨k1,k2⟩:=done1 _ _ s' rfl mv fun b ob e=>qag _ (qag _ e)
     exact qaX (qaX ⟨rfl,s'.heap,s'.toks,k2,gg,k1⟩)
    ·obtain ⟨⟨ocl,odi,oda,osl⟩,hol,hcl,nl,hdl⟩:=hl
     simp only at hcl hdl
     subst hcl hdl
     have hol':=keepL _ hol
     have f1:=F.sub_tuple_set
     have f2:=F.sub_tuple_frozenset
     have f3:(Value.type "tuple"==Value.type "dict")=false:=by decide
     wp_walk
     subst hPI
     have hl1:(s.heap.push {cls:= .type "set",dict:=none,data:= .set #[] 0 (.fresh 0 0 (zb9 w))}).IsTuple l items:=⟨_,hol',rfl,nl,rfl⟩
     refine wpAny_pyIter_tuple hl1 ?_
     refine qaW (wpAny_runValue ?_)
     have ltl:l<s.heap.objs.size:=qaQ hol
     have szp:(s.heap.push {cls:= .type "set",dict:=none,data:= .set #[] 0 (.fresh 0 0 (zb9 w))}).objs.size=s.heap.objs.size+1:=qaL ..
     have ne1:l≠(s.heap.push {cls:= .type "set",dict:=none,data:= .set #[] 0 (.fresh 0 0 (zb9 w))}).objs.size:=by rw [szp];exact qaR (Nat.lt_succ_of_lt ltl)
     have ne2:s.heap.objs.size∉[(s.heap.push {cls:= .type "set",dict:=none,data:= .set #[] 0 (.fresh 0 0 (zb9 w))}).objs.size,l]:=by
      rw [szp]
      simp only [qaP,qaF,or_false]
      rintro (z | z)
      ·exact Nat.succ_ne_self _ z.symm
      ·exact qaN _ (z▸ltl)
     refine zr5 ((Walks.tuple hh3 _ l ne1 items).toS) s.heap.objs.size ne2 (fun i=>ns.getD i 0) hval room _ 0 _ rfl (Nat.zero_le _) ⟨⟨_,qar _ rfl,rfl,rfl⟩,⟨_,qag _ hol',rfl,nl,rfl⟩⟩ ?g0 fun s' mv gg=> ?_
     case g0=>exact (zml s.heap).move (fun ob e=>qag _ e) (fun _=>rfl) rfl
     obtain ⟨k1,k2⟩:=done1 _ _ s' rfl mv fun b ob e=>qag _ (qag _ e)
     exact qaX (qaX ⟨rfl,s'.heap,s'.toks,k2,gg,k1⟩)
   ·cases r2 with
    | error e=>exact hr2
    | ok fl2=>
     cases fl2 with
     | ret z=>
      obtain ⟨rfl,h',tk,rfl,gg,k1⟩:=hr2
      repeat' (first | assumption | wp_step)
      exact q _ _ gg k1
     | _=>exact hr2.elim
  | _=>exact hr.elim
end
theorem zay:Slot "set_iterator" "__next__" "set_iterator.__next__":= .of (owner:="set_iterator") (n:="__next__") (by rw [typeLookup_type,builtinLookup_eq_fast];kernel_rfl) (by decide +kernel) (by decide +kernel) (by decide +kernel) (by first | exact .inl (by decide +kernel) | exact .inr (by decide +kernel)) (by rw [isSubtype_type];kernel_rfl)
theorem zdc:Slot "set_iterator" "__iter__" "set_iterator.__iter__":= .of (owner:="set_iterator") (n:="__iter__") (by rw [typeLookup_type,builtinLookup_eq_fast];kernel_rfl) (by decide +kernel) (by decide +kernel) (by decide +kernel) (by first | exact .inl (by decide +kernel) | exact .inr (by decide +kernel)) (by rw [isSubtype_type];kernel_rfl)
theorem zbX:entryFor table "set_iterator.__next__"=some Builtin.«set_iterator.__next__» := entryFor_of_tree (by kernel_rfl)
theorem zet:entryFor table "set_iterator.__iter__"=some Builtin.«dict_keyiterator.__iter__» := entryFor_alias (id':="dict_keyiterator.__iter__") (by kernel_rfl) rfl (by decide +kernel) (by kernel_rfl)
theorem zb5 (a:Value):argsOk "set_iterator.__next__" ⟨[a],[]⟩:=by unfold argsOk;kernel_rfl
theorem zeM (a:Value):argsOk "set_iterator.__iter__" ⟨[a],[]⟩:=by unfold argsOk;kernel_rfl
theorem zeq:entryFor table "set.__iter__"=some Builtin.«frozenset.__iter__» := entryFor_alias (id':="frozenset.__iter__") (by kernel_rfl) rfl (by decide +kernel) (by kernel_rfl)
def SIt (h:Heap) (it a:Addr) (first:Value) (i n ep:Nat):Prop:=h.get? it=some {cls:= .type "set_iterator",dict:=none,data:= .fields #[first,.int i 0,.ref a,.int n 0,.int ep 0],slots:= #[]}
structure zg7 (h:Heap) (a:Addr) (es:Array (Int×Value)) (ep:Nat) (tb:SetTable):Prop where
 at_: ∃ ob,h.get? a=some ob/\ob.ExactSet/\ob.data= .set es ep tb
 fits:tb.fits es.size=true
section
variable {prog:Program} {w:World} {A:Around} {E:Value->Shared->Prop} {s:Shared}
theorem ziP {it a:Addr} {first:Value} {i n ep:Nat} {es:Array (Int×Value)} {tb:SetTable} {Q:Option Value->Shared->Prop} (hI:SIt s.heap it a first i n ep) (hS:zg7 s.heap a es ep tb) (hn:es.size=n) (slot:Nat) (hf:first= .int slot 0)
  (q:wpAny (model prog w) A.in1 (do
    match<-setNext a slot i ep with
    | some (x,next)=>
      setField (.ref it) 0 (rawInt next)
      setField (.ref it) 1 (rawInt ((i:Int)+1))
      ret x
    | none=>setField (.ref it) 2 .none;raiseNew (<- newExc (.type "StopIteration") [])) (fun f s'=> ∃ v,f= .done (.ret v)/\Q (some v) s') (fun e s'=>wpAny (model prog w) A (do if<-isInstance e (.type "StopIteration") then pure none else throw e) Q E s') s):
  wpAny (model prog w) A (pyNext (.ref it)) Q E s:=by
 obtain ⟨ob,ho,hx,hd⟩:=hS.at_
 subst hf
 have tI:s.TypeIs (.ref it) "set_iterator":=⟨_,hI,rfl⟩
 unfold pyNext
 refine qaW (wpAny_attempt (wpAny_callSpecial?_slot (name:=Str.ofString "__next__") tI zay (wpAny_call_entry zay tI zbX ?_ (zb5 _))))
 unfold Builtin.«set_iterator.__next__»
 refine qaW (m:=slotArgs "__next__" 0 _) (qaX ?_)
 refine qaW (m:=fieldsOf (.ref it)) ?_
 unfold fieldsOf
 refine qaW (wpAny_load hI (qaX ?_))
 refine qaW (wpAny_setEntries_of ho hd hS.fits ?_)
 have same: ¬(((es.size:Nat):Int) != (n:Int))=true:=by rw [hn];simp
 rw [qa5 same]
 exact qaZ q (fun f s' ⟨v,e,z⟩=>⟨v,e,qaX z⟩) fun e s' z=>z
theorem zj2 {it:Addr} {r:Shared->Prop} {Q:Option Value->Shared->Prop} (hh:A.handled=none) (q: ∀ h',(∀ b ob,s.heap.get? b=some ob->h'.get? b=some ob)->Q none {s with heap:=h'}):
  wpAny (model prog w) A.in1 (do raiseNew (<- newExc (.type "StopIteration") []):Sem PySem.Fin) (fun f s'=> ∃ v,f= .done (.ret v)/\Q (some v) s') (fun e s'=>wpAny (model prog w) A (do if<-isInstance e (.type "StopIteration") then pure none else throw e) Q E s') s:=by
 refine qaW ?_
 simp only [newExc,newTuple]
 refine qaW (qaC ?_ (by size_fits))
 refine qaW (m:=firstArgMember _ _) (wpAny_of_eq (a:=Value.none) (by first | rfl | (simp only [firstArgMember];rfl)) ?_)
 refine qaC ?_ (by size_fits)
 simp only [raiseNew]
 refine qaW (wpAny_handled ?_)
 rw [show A.in1.handled=none from hh]
 refine qaW (qaX (wpAny_throw ?_))
 refine qaW (wpAny_isInstance (T:="StopIteration") (b:=true) ⟨_,qar _ rfl,rfl⟩ isSubtype_stop ?_)
 exact qaX (q _ fun b ob e=>qag _ (qag _ e))
theorem SIt.set {h h':Heap} {it a:Addr} {first:Value} {i n ep:Nat} (x:SIt h it a first i n ep):it<h.objs.size:=qaQ x
theorem zeA {es:Array (Int×Value)} {tb:SetTable} (hf:tb.fits es.size=true):tb.place.size=es.size:=by
 unfold SetTable.fits at hf
 simp only [qaG,beq_iff_eq] at hf
 exact hf.1
theorem zc8 {a:Addr} {ep i slot:Nat} {es:Array (Int×Value)} {tb:SetTable} {R:Option (Value×Nat)->Shared->Prop} (hS:zg7 s.heap a es ep tb) (led:tb.led=true) (bt:w.params.followText "set-order"=false) (pl:(!tb.plain && decide (es.size>1))=false)
  (q:R (match es[SetTable.below tb.place slot]?, tb.place[SetTable.below tb.place slot]? with | some (_,x),some j=>some (x,j+1) | _,_=>none) s):wpAny (model prog w) A (setNext a slot i ep) R E s:=by
 obtain ⟨ob,ho,hx,hd⟩:=hS.at_
 unfold setNext
 refine qaW (wpAny_setState_of ho hd hS.fits ?_)
 dsimp only
 unfold setsByText
 refine qaW (qaW (wpAny_askSetting (qaX ?_)))
 dsimp only
 rw [show (model prog w).w.params.followText "set-order"=false from bt]
 simp only [qax,if_false]
 show wpAny _ _ (if (!tb.plain && decide (es.size>1))=true then _ else _) _ _ _
 rw [qa5 (by rw [pl];exact Bool.false_ne_true)]
 refine qaW ?_
 show wpAny _ _ (if (!tb.led && !es.isEmpty)=true then _ else _) _ _ _
 rw [qa5 (by rw [led];exact Bool.false_ne_true)]
 exact qaX (qaX q)
theorem zdw {a:Addr} {ep i slot:Nat} {es:Array (Int×Value)} {tb:SetTable} {R:Option (Value×Nat)->Shared->Prop} (hS:zg7 s.heap a es ep tb) (bt:w.params.followText "set-order"=true)
  (q:R (((pickOrder (w.params.setOrder a ep) es)[i]?).map fun e=>(e.2,slot)) s):wpAny (model prog w) A (setNext a slot i ep) R E s:=by
 obtain ⟨ob,ho,hx,hd⟩:=hS.at_
 unfold setNext
 refine qaW (wpAny_setState_of ho hd hS.fits ?_)
 dsimp only
 unfold setsByText
 refine qaW (qaW (wpAny_askSetting (qaX ?_)))
 dsimp only
 rw [show (model prog w).w.params.followText "set-order"=true from bt]
 simp only [if_true]
 rw [qa5 (by simp)]
 refine qaW ?_
 unfold setWalk
 refine qaW (wpAny_setState_of ho hd hS.fits ?_)
 dsimp only
 unfold setsByText
 refine qaW (qaW (wpAny_askSetting (qaX ?_)))
 dsimp only
 rw [show (model prog w).w.params.followText "set-order"=true from bt]
 simp only [if_true]
 refine qaW (wpAny_askSetting (qaX (qaX q)))
theorem zir {it a:Addr} {n ep i slot nx:Nat} {x:Value} {es:Array (Int×Value)} {tb:SetTable} {Q:Option Value->Shared->Prop} (hI:SIt s.heap it a (.int slot 0) i n ep) (hS:zg7 s.heap a es ep tb) (hn:es.size=n)
  (st: ∀ (R:Option (Value×Nat)->Shared->Prop) (E':Value->Shared->Prop),R (some (x,nx)) s->wpAny (model prog w) A.in1 (setNext a slot i ep) R E' s)
  (q: ∀ h',SIt h' it a (.int nx 0) (i+1) n ep->Heap.SameBut it s.heap h'->Q (some x) {s with heap:=h'}):wpAny (model prog w) A (pyNext (.ref it)) Q E s:=by
 refine ziP hI hS hn slot rfl (qaW (st _ _ ?_))
 dsimp only
 refine qaW (wpAny_setField_rec hI (by simp) fun h1 a1 sb1=> ?_)
 refine qaW (wpAny_setField_rec (s:={s with heap:=h1}) a1 (by simp) fun h2 a2 sb2=> ?_)
 refine qaX ⟨x,rfl,q h2 ?_ (sb1.trans sb2)⟩
 unfold SIt
 rw [a2]
 simp [rawInt]
theorem zlY {it a:Addr} {n ep i slot:Nat} {es:Array (Int×Value)} {tb:SetTable} {Q:Option Value->Shared->Prop} (hh:A.handled=none) (hI:SIt s.heap it a (.int slot 0) i n ep) (hS:zg7 s.heap a es ep tb) (hn:es.size=n)
  (st: ∀ (R:Option (Value×Nat)->Shared->Prop) (E':Value->Shared->Prop),R none s->wpAny (model prog w) A.in1 (setNext a slot i ep) R E' s)
  (q: ∀ h',(∀ b ob,b≠it->s.heap.get? b=some ob->h'.get? b=some ob)->Q none {s with heap:=h'}):wpAny (model prog w) A (pyNext (.ref it)) Q E s:=by
 refine ziP hI hS hn slot rfl (qaW (st _ _ ?_))
 dsimp only
 refine qaW (wpAny_setField_rec hI (by simp) fun h1 a1 sb1=> ?_)
 exact zj2 (r:=fun _=>True) (it:=it) (s:={s with heap:=h1}) hh fun h' k=>q h' fun b ob hb e=>k b ob ((sb1.2 b hb).trans e)
end
theorem zcv {α:Type}: ∀ {l:List α} {i:Nat} {x:α},l[i]? = some x->List.Perm l (x::l.eraseIdx i)
 | [],_,_,e=>by simp at e
 | a::r,0,x,e=>by simp at e;subst e;exact .rfl
 | a::r,i+1,x,e=>by
  have e:r[i]? = some x:=by simpa using e
  exact ((zcv e).cons a).trans (.swap x a _)
theorem zdC {α:Type} {l:List α} {i:Nat} {x:α} (e:l[i]? = some x):(l.eraseIdx i).length+1=l.length:=by
 have:=(zcv e).length_eq
 rw [qaE] at this
 exact this.symm
theorem zfJ {α:Type} (nx:Nat->Nat): ∀ (fuel k:Nat) (left:List α) (out:Array α),left.length=fuel->List.Perm (pickOrder.go nx fuel k left out).toList (out.toList++left)
 | 0,k,left,out,h=>by
  have:left=[]:=List.length_eq_zero_iff.mp h
  subst this
  simp [pickOrder.go]
 | fuel+1,k,left,out,h=>by
  unfold pickOrder.go
  have hl:nx k % left.length<left.length:=Nat.mod_lt _ (by omega)
  have e:left[nx k % left.length]? = some left[nx k % left.length]:=by simp [hl]
  rw [e]
  dsimp only
  have hz:=zdC e
  refine (zfJ nx fuel (k+1) _ _ (by omega)).trans ?_
  rw [Array.toList_push,List.append_assoc]
  exact List.Perm.append_left _ (zcv e).symm
theorem zbV {α:Type} (nx:Nat->Nat) (xs:Array α):List.Perm (pickOrder nx xs).toList xs.toList:=by
 have:=zfJ nx xs.size 0 xs.toList #[] (by simp)
 simpa [pickOrder] using this
section
variable {prog:Program} {w:World} {A:Around} {E:Value->Shared->Prop} {s:Shared}
theorem zh0 {src:Source} {n:Nat} {Q:Nat->Shared->Prop} (hn:n≠0) (q: ∀ k d,k<n->Q k {s with drawn:=d}):wpAny (model prog w) A (choose src n) Q E s:=fun Γ p hΓ=>⟨hn,q _ _ (Nat.mod_lt _ (Nat.pos_of_ne_zero hn))⟩
theorem zdv {α:Type}: ∀ (fuel:Nat) (xs:List α) (s:Shared) (Q:List α->Shared->Prop),xs.length<=fuel->(∀ ys d,List.Perm ys xs->Q ys {s with drawn:=d})->wpAny (model prog w) A (drawOrder fuel xs) Q E s
 | 0,xs,s,Q,h,q=>by
  have:xs=[]:=List.length_eq_zero_iff.mp (by omega)
  subst this
  unfold drawOrder
  exact qaX (q [] s.drawn .rfl)
 | fuel+1,[],s,Q,h,q=>by
  unfold drawOrder
  exact qaX (q [] s.drawn .rfl)
 | fuel+1,x::r,s,Q,h,q=>by
  unfold drawOrder
  refine qaW (zh0 (by simp) fun k d hk=> ?_)
  have e:(x::r)[k]? = some (x::r)[k]:=by simp [hk]
  rw [e]
  dsimp only
  have hz:=zdC e
  refine qaW (zdv fuel ((x::r).eraseIdx k) {s with drawn:=d} _ (by omega) fun ys d' p=>qaX ?_)
  exact q _ d' ((p.cons _).trans (zcv e).symm)
theorem zih {it a tp:Addr} {n ep i p:Nat} {x:Value} {es:Array (Int×Value)} {tb:SetTable} {ps:Array Value} {Q:Option Value->Shared->Prop} (hI:SIt s.heap it a (.ref tp) i n ep) (hS:zg7 s.heap a es ep tb) (hn:es.size=n)
  (hT:s.heap.get? tp=some {cls:= .type "tuple",data:= .seq ps}) (hp:ps[i]? = some (.int (p:Nat) 0)) (he:(es[p]?).map (·.2)=some x)
  (q: ∀ h',SIt h' it a (.ref tp) (i+1) n ep->Heap.SameBut it s.heap h'->Q (some x) {s with heap:=h'}):wpAny (model prog w) A (pyNext (.ref it)) Q E s:=by
 obtain ⟨ob,ho,hx,hd⟩:=hS.at_
 have tI:s.TypeIs (.ref it) "set_iterator":=⟨_,hI,rfl⟩
 unfold pyNext
 refine qaW (wpAny_attempt (wpAny_callSpecial?_slot (name:=Str.ofString "__next__") tI zay (wpAny_call_entry zay tI zbX ?_ (zb5 _))))
 unfold Builtin.«set_iterator.__next__»
 refine qaW (m:=slotArgs "__next__" 0 _) (qaX ?_)
 refine qaW (m:=fieldsOf (.ref it)) ?_
 unfold fieldsOf
 refine qaW (wpAny_load hI (qaX ?_))
 refine qaW (wpAny_setEntries_of ho hd hS.fits ?_)
 have same: ¬(((es.size:Nat):Int) != (n:Int))=true:=by rw [hn];simp
 rw [qa5 same]
 refine qaW (m:=seqItems? (.ref tp)) ?_
 unfold seqItems?
 refine qaW (wpAny_load hT (qaX ?_))
 dsimp only
 rw [show ((i:Nat):Int).toNat=i from qaB i,hp]
 dsimp only
 refine qaW (m:=setNextDrawn a _ _) ?_
 unfold setNextDrawn
 refine qaW (wpAny_setState_of ho hd hS.fits ?_)
 dsimp only
 rw [show ((ep:Nat):Int).toNat=ep from qaB ep,show ((p:Nat):Int).toNat=p from qaB p,qa5 (by simp)]
 cases ee:es[p]? with
 | none=>rw [ee] at he;cases he
 | some e=>
  rw [ee] at he
  cases he
  dsimp only
  refine qaX ?_
  refine qaW (wpAny_setField_rec hI (by simp) fun h2 a2 sb2=> ?_)
  refine qaX ⟨_,rfl,qaX (q h2 ?_ sb2)⟩
  unfold SIt
  rw [a2]
  simp [rawInt]
theorem zjY {it a tp:Addr} {n ep i:Nat} {es:Array (Int×Value)} {tb:SetTable} {ps:Array Value} {Q:Option Value->Shared->Prop} (hh:A.handled=none) (hI:SIt s.heap it a (.ref tp) i n ep) (hS:zg7 s.heap a es ep tb) (hn:es.size=n)
  (hT:s.heap.get? tp=some {cls:= .type "tuple",data:= .seq ps}) (hp:ps[i]? = none)
  (q: ∀ h',(∀ b ob,b≠it->s.heap.get? b=some ob->h'.get? b=some ob)->Q none {s with heap:=h'}):wpAny (model prog w) A (pyNext (.ref it)) Q E s:=by
 obtain ⟨ob,ho,hx,hd⟩:=hS.at_
 have tI:s.TypeIs (.ref it) "set_iterator":=⟨_,hI,rfl⟩
 unfold pyNext
 refine qaW (wpAny_attempt (wpAny_callSpecial?_slot (name:=Str.ofString "__next__") tI zay (wpAny_call_entry zay tI zbX ?_ (zb5 _))))
 unfold Builtin.«set_iterator.__next__»
 refine qaW (m:=slotArgs "__next__" 0 _) (qaX ?_)
 refine qaW (m:=fieldsOf (.ref it)) ?_
 unfold fieldsOf
 refine qaW (wpAny_load hI (qaX ?_))
 refine qaW (wpAny_setEntries_of ho hd hS.fits ?_)
 have same: ¬(((es.size:Nat):Int) != (n:Int))=true:=by rw [hn];simp
 rw [qa5 same]
 refine qaW (m:=seqItems? (.ref tp)) ?_
 unfold seqItems?
 refine qaW (wpAny_load hT (qaX ?_))
 dsimp only
 rw [show ((i:Nat):Int).toNat=i from qaB i,hp]
 dsimp only
 refine qaW (wpAny_setField_rec hI (by simp) fun h1 a1 sb1=> ?_)
 refine qaW (wpAny_setField_rec (s:={s with heap:=h1}) a1 (by simp) fun h2 a2 sb2=> ?_)
 refine qaZ (zj2 (Q:=Q) (E:=E) (r:=fun _=>True) (it:=it) (s:={s with heap:=h2}) hh fun h' k=>q h' fun b ob hb e=>k b ob ((sb2.2 b hb).trans ((sb1.2 b hb).trans e))) (fun f s' ⟨v,e,z⟩=>⟨v,e,qaX z⟩) fun e s' z=>z
theorem zeb {it a:Addr} {first:Value} {i n ep:Nat} {Q:Value->Shared->Prop} (hI:SIt s.heap it a first i n ep) (q:Q (.ref it) s):wpAny (model prog w) A (pyIter (.ref it)) Q E s:=by
 have tI:s.TypeIs (.ref it) "set_iterator":=⟨_,hI,rfl⟩
 refine wpAny_pyIter_slot tI zdc (wpAny_call_entry zdc tI zet ?_ (zeM _))
 show wpAny _ _ (ret (.ref it)) _ _ _
 exact qaX ⟨_,rfl,"set_iterator",_,tI,zay.lookup,q⟩
theorem zg7.keep {h h':Heap} {a:Addr} {es:Array (Int×Value)} {ep:Nat} {tb:SetTable} (x:zg7 h a es ep tb) (k: ∀ ob,h.get? a=some ob->h'.get? a=some ob):zg7 h' a es ep tb:=
 ⟨let ⟨ob,h1,h2⟩:=x.at_;⟨ob,k ob h1,h2⟩,x.fits⟩
noncomputable def zgg (tb:SetTable):Nat->Nat
 | 0=>0
 | i+1=>tb.place.getD i 0+1
theorem zie (hh:A.handled=none) {it a:Addr} {ep:Nat} {es:Array (Int×Value)} {tb:SetTable} (hne:a≠it) (up:Up tb.place) (led:tb.led=true) (bt:w.params.followText "set-order"=false) (pl:(!tb.plain && decide (es.size>1))=false) (hf:tb.fits es.size=true):
  Walks prog w A it [it,a] [it] es.size (fun i v=> ∃ e,es.toList[i]? = some e/\v=e.2) (fun i h=>SIt h it a (.int (zgg tb i:Nat) 0) i es.size ep/\zg7 h a es ep tb) where
 sub:=fun b hb=>by simp at hb;simp [hb]
 frame:=fun i h h' st k=>⟨k it (by simp) _ st.1,st.2.keep fun ob e=>k a (by simp) ob e⟩
 item:=fun i s Q E hi st q=>by
  have pz:=zeA hf
  have hi2:i<tb.place.size:=by omega
  have bl:SetTable.below tb.place (zgg tb i)=i:=by
   cases i with
   | zero=>exact zex up
   | succ i=>
    have hi3:i<tb.place.size:=by omega
    have e:tb.place[i]? = some (tb.place.getD i 0):=by simp [hi3,Array.getD]
    exact zeG up e
  have ep':tb.place.getD i 0=tb.place[i]:=by simp [hi2,Array.getD]
  refine zir (nx:=zgg tb (i+1)) (x:=es[i].2) st.1 st.2 rfl (fun R E' r=>zc8 st.2 led bt pl ?_) fun h' a1 sb=> ?_
  ·rw [bl]
   have e1:es[i]? = some es[i]:=by simp [hi]
   have e2:tb.place[i]? = some tb.place[i]:=by simp [hi2]
   rw [e1,e2]
   show R (some (es[i].2,tb.place[i]+1)) s
   have e3:zgg tb (i+1)=tb.place[i]+1:=by show tb.place.getD i 0+1=_;rw [ep']
   rw [<- e3]
   exact r
  ·exact q _ h' s.toks ⟨es[i],by simp [hi],rfl⟩ ⟨a1,st.2.keep fun ob e=>(sb.2 a hne).trans e⟩ fun b ob hb e=>(sb.2 b fun z=>hb (by simp [z])).trans e
 done:=fun s Q E st q=>by
  have pz:=zeA hf
  have bl:SetTable.below tb.place (zgg tb es.size)=es.size:=by
   cases hz:es.size with
   | zero=>exact zex up
   | succ i=>
    have hi3:i<tb.place.size:=by omega
    have e:tb.place[i]? = some (tb.place.getD i 0):=by simp [hi3,Array.getD]
    exact zeG up e
  refine zlY hh st.1 st.2 rfl (fun R E' r=>zc8 st.2 led bt pl ?_) fun h' k=>q h' s.toks fun b ob hb e=>k b ob (fun z=>hb (by simp [z])) e
  rw [bl]
  have e1:es[es.size]? = none:=by simp
  rw [e1]
  exact r
 self:=fun i s Q E st q=>zeb st.1 q
theorem zi4 (hh:A.handled=none) {it a:Addr} {ep:Nat} {es:Array (Int×Value)} {tb:SetTable} (hne:a≠it) (bt:w.params.followText "set-order"=true) (hf:tb.fits es.size=true):
  Walks prog w A it [it,a] [it] es.size (fun i v=> ∃ e,(pickOrder (w.params.setOrder a ep) es).toList[i]? = some e/\v=e.2) (fun i h=>SIt h it a (.int (0:Nat) 0) i es.size ep/\zg7 h a es ep tb) where
 sub:=fun b hb=>by simp at hb;simp [hb]
 frame:=fun i h h' st k=>⟨k it (by simp) _ st.1,st.2.keep fun ob e=>k a (by simp) ob e⟩
 item:=fun i s Q E hi st q=>by
  have pz:(pickOrder (w.params.setOrder a ep) es).size=es.size:=by
   have:=(zbV (w.params.setOrder a ep) es).length_eq
   simpa using this
  have hi2:i<(pickOrder (w.params.setOrder a ep) es).size:=by omega
  refine zir (nx:=0) (x:=(pickOrder (w.params.setOrder a ep) es)[i].2) st.1 st.2 rfl (fun R E' r=>zdw st.2 bt ?_) fun h' a1 sb=> ?_
  ·have e1:(pickOrder (w.params.setOrder a ep) es)[i]? = some (pickOrder (w.params.setOrder a ep) es)[i]:=by simp [hi2]
   rw [e1]
   exact r
  ·exact q _ h' s.toks ⟨(pickOrder (w.params.setOrder a ep) es)[i],by simp [hi2],rfl⟩ ⟨a1,st.2.keep fun ob e=>(sb.2 a hne).trans e⟩ fun b ob hb e=>(sb.2 b fun z=>hb (by simp [z])).trans e
 done:=fun s Q E st q=>by
  have pz:(pickOrder (w.params.setOrder a ep) es).size=es.size:=by
   have:=(zbV (w.params.setOrder a ep) es).length_eq
   simpa using this
  refine zlY hh st.1 st.2 rfl (fun R E' r=>zdw st.2 bt ?_) fun h' k=>q h' s.toks fun b ob hb e=>k b ob (fun z=>hb (by simp [z])) e
  have e1:(pickOrder (w.params.setOrder a ep) es)[es.size]? = none:=by simp [pz]
  rw [e1]
  exact r
 self:=fun i s Q E st q=>zeb st.1 q
theorem zhQ (hh:A.handled=none) {it a tp:Addr} {ep:Nat} {es:Array (Int×Value)} {tb:SetTable} {ys:List Nat} (hne:a≠it) (hne2:tp≠it) (hp:List.Perm ys (List.range es.size)):
  Walks prog w A it [it,a,tp] [it] es.size (fun i v=> ∃ e,(ys.filterMap (es[·]?))[i]? = some e/\v=e.2) (fun i h=>SIt h it a (.ref tp) i es.size ep/\zg7 h a es ep tb/\h.get? tp=some {cls:= .type "tuple",data:= .seq (ys.map fun (i:Nat)=>rawInt i).toArray}) where
 sub:=fun b hb=>by simp at hb;simp [hb]
 frame:=fun i h h' st k=>⟨k it (by simp) _ st.1,st.2.1.keep fun ob e=>k a (by simp) ob e,k tp (by simp) _ st.2.2⟩
 item:=fun i s Q E hi st q=>by
  have hl:ys.length=es.size:=by simpa using hp.length_eq
  have hi2:i<ys.length:=by omega
  have lt: ∀ y∈ys,y<es.size:=fun y hy=>by simpa using hp.mem_iff.mp hy
  have lti:=lt _ (List.getElem_mem hi2)
  have fm: ∀ (zs:List Nat),(∀ y∈zs,y<es.size)-> ∀ (j:Nat) (y:Nat),zs[j]? = some y->(zs.filterMap (es[·]?))[j]? = es[y]? := by
   intro zs
   induction zs with
   | nil=>intro _ j y e;simp at e
   | cons z r ih=>
    intro hz j y e
    have lz:=hz z (.head _)
    rw [List.filterMap_cons_some (b:=es[z]) (by simp [lz])]
    cases j with
    | zero=>simp at e;subst e;simp [lz]
    | succ j=>simpa using ih (fun y hy=>hz y (.tail _ hy)) j y (by simpa using e)
  refine zih (p:=ys[i]) (x:=es[ys[i]].2) st.1 st.2.1 rfl st.2.2 (by simp [hi2,rawInt]) (by simp [lti]) fun h' a1 sb=> ?_
  refine q _ h' s.toks ⟨es[ys[i]],?_,rfl⟩ ⟨a1,st.2.1.keep fun ob e=>(sb.2 a hne).trans e,(sb.2 tp hne2).trans st.2.2⟩ fun b ob hb e=>(sb.2 b fun z=>hb (by simp [z])).trans e
  rw [fm ys lt i ys[i] (by simp [hi2])]
  simp [lti]
 done:=fun s Q E st q=>by
  have hl:ys.length=es.size:=by simpa using hp.length_eq
  exact zjY hh st.1 st.2.1 rfl st.2.2 (by simp [hl]) fun h' k=>q h' s.toks fun b ob hb e=>k b ob (fun z=>hb (by simp [z])) e
 self:=fun i s Q E st q=>zeb st.1 q
end
section
variable {prog:Program} {w:World} {A:Around} {E:Value->Shared->Prop} {s:Shared}
structure zmV (prog:Program) (w:World) (a it:Addr) (es:Array (Int×Value)) (ord:List (Int×Value)) (fp:List Addr) (St:Nat->Heap->Prop):Prop where
 walks: ∀ A:Around,A.handled=none->Walks prog w A it fp [it] es.size (fun i v=> ∃ e,ord[i]? = some e/\v=e.2) St
 perm:List.Perm ord es.toList
 mem:it∈fp
theorem zq7 {a:Addr} {S:Int->Bool} {n:Nat} {Q:Value->Shared->Prop} (g:zfl prog w s.heap a S n)
  (q: ∀ it es ep tb ord fp St h' d,(∃ ob,s.heap.get? a=some ob/\ob.ExactSet/\ob.data= .set es ep tb)->zmV prog w a it es ord fp St->St 0 h'->s.heap.objs.size<=it->(∀ b ob,s.heap.get? b=some ob->h'.get? b=some ob)->(∀ b∈fp,b=a\/s.heap.objs.size<=b)->es.size<scanBound->
    Q (.ref it) {s with heap:=h',drawn:=d}):wpAny (model prog w) A (pyIter (.ref a)) Q E s:=by
 obtain ⟨ob,es,ep,tb,⟨h1,h2,h3⟩,h4,h5,⟨h6,h7,h8⟩,h9⟩:=g
 have tS:s.TypeIs (.ref a) "set":=⟨ob,h1,h2.1⟩
 have lta:a<s.heap.objs.size:=qaQ h1
 refine wpAny_pyIter_slot tS F.slot_set_iter (wpAny_call_entry F.slot_set_iter tS zeq ?_ (F.args_set_iter_1 _))
 unfold Builtin.«frozenset.__iter__»
 refine qaW (m:=Builtin.Frozenset.slot0 "__iter__" _) (qaX ?_)
 refine qaW (m:=Builtin.Frozenset.sizeOf a) ?_
 unfold Builtin.Frozenset.sizeOf
 refine qaW (wpAny_setEntries_of h1 h3 h7 (qaX ?_))
 refine qaW (m:=setDrawn a) ?_
 unfold setDrawn
 refine qaW (wpAny_setState_of h1 h3 h7 ?_)
 dsimp only
 unfold setsByText
 refine qaW (qaW (wpAny_askSetting (qaX (qaX ?_))))
 dsimp only
 have sobj: ∀ {h':Heap},(∀ b ob,s.heap.get? b=some ob->h'.get? b=some ob)->zg7 h' a es ep tb:=fun k=>⟨⟨ob,k _ _ h1,h2,h3⟩,h7⟩
 by_cases dr:(!(model prog w).w.params.followText "set-order" && (!tb.plain && decide (es.size>1)))=true
 ·show wpAny _ _ (if (!(model prog w).w.params.followText "set-order" && (!tb.plain && decide (es.size>1)))=true then _ else _) _ _ _
  rw [qa4 dr]
  refine qaW (zdv es.size (List.range es.size) s _ (by simp) fun ys d hp=> ?_)
  have hl:ys.length=es.size:=by simpa using hp.length_eq
  have small:es.size<=sizeLine:=fits_of_scanBound h6
  refine qaW ?_
  unfold newTuple
  refine qaC ?_ (by show (ys.map fun (i:Nat)=>rawInt i).toArray.size<=sizeLine;simp [hl];exact small)
  unfold setEpoch
  refine qaW (qaW (wpAny_setState_of (s:={s with heap:=_,drawn:=d}) (qag _ h1) h3 h7 (qaX ?_)))
  dsimp only
  refine qaW (qaC (qaX ⟨_,rfl,"set_iterator",_,⟨_,qar _ rfl,rfl⟩,zay.lookup,?_⟩))
  have z1:(s.heap.push {cls:= .type "tuple",dict:=none,data:= .seq (ys.map fun (i:Nat)=>rawInt i).toArray}).objs.size=s.heap.objs.size+1:=qaL ..
  have kp: ∀ (o2:Obj) b ob,s.heap.get? b=some ob->((s.heap.push {cls:= .type "tuple",dict:=none,data:= .seq (ys.map fun (i:Nat)=>rawInt i).toArray}).push o2).get? b=some ob:=fun o2 b ob e=>qag _ (qag _ e)
  refine q _ es ep tb (ys.filterMap (es[·]?)) [(s.heap.push {cls:= .type "tuple",dict:=none,data:= .seq (ys.map fun (i:Nat)=>rawInt i).toArray}).objs.size,a,s.heap.objs.size] _ _ d ⟨ob,h1,h2,h3⟩ ⟨fun A' hA=>zhQ (tb:=tb) (ep:=ep) hA ?_ ?_ hp,?_,.head _⟩ ⟨?_,sobj (kp _),?_⟩ ?_ (kp _) (fun b hb=> ?_) h6
  ·rw [z1];exact qaR (Nat.lt_succ_of_lt lta)
  ·rw [z1];exact qaR (Nat.lt_succ_self _)
  ·refine (hp.filterMap _).trans ?_
   rw [filterMap_getElem?_range]
  ·exact qar _ rfl
  ·exact qag _ (qar _ rfl)
  ·rw [z1];exact Nat.le_succ _
  ·simp only [qaP,qaF,or_false] at hb
   rcases hb with z | z | z
   ·right;rw [z,z1];exact Nat.le_succ _
   ·exact .inl z
   ·right;rw [z];exact qaV _
 ·show wpAny _ _ (if (!(model prog w).w.params.followText "set-order" && (!tb.plain && decide (es.size>1)))=true then _ else _) _ _ _
  rw [qa5 dr]
  refine qaW (qaX ?_)
  unfold setEpoch
  refine qaW (qaW (wpAny_setState_of h1 h3 h7 (qaX ?_)))
  dsimp only
  refine qaW (qaC (qaX ⟨_,rfl,"set_iterator",_,⟨_,qar _ rfl,rfl⟩,zay.lookup,?_⟩))
  have kp: ∀ (o2:Obj) b ob,s.heap.get? b=some ob->(s.heap.push o2).get? b=some ob:=fun o2 b ob e=>qag _ e
  have fpl: ∀ b∈[s.heap.objs.size,a],b=a\/s.heap.objs.size<=b:=fun b hb=>by
   simp only [qaP,qaF,or_false] at hb
   rcases hb with z | z
   ·right;rw [z];exact qaV _
   ·exact .inl z
  cases bt:w.params.followText "set-order" with
  | true=>
   exact q _ es ep tb _ [s.heap.objs.size,a] _ _ s.drawn ⟨ob,h1,h2,h3⟩ ⟨fun A' hA=>zi4 (tb:=tb) (ep:=ep) hA (qaR lta) bt h7,zbV _ _,.head _⟩ ⟨qar _ rfl,sobj (kp _)⟩ (qaV _) (kp _) fpl h6
  | false=>
   have pl:(!tb.plain && decide (es.size>1))=false:=by
    rw [show (model prog w).w.params.followText "set-order"=false from bt] at dr
    simpa using dr
   have led:tb.led=true:=by
    rw [h9.led]
    unfold zb9
    rw [bt]
    rfl
   exact q _ es ep tb _ [s.heap.objs.size,a] _ _ s.drawn ⟨ob,h1,h2,h3⟩ ⟨fun A' hA=>zie (tb:=tb) (ep:=ep) hA (qaR lta) h9.up led bt pl h7,.rfl,.head _⟩ ⟨qar _ rfl,sobj (kp _)⟩ (qaV _) (kp _) fpl h6
theorem zlm {a:Addr} {S:Int->Bool} {n:Nat} {Q:List Value->Shared->Prop} (hh:A.handled=none) (g:zfl prog w s.heap a S n)
  (q: ∀ vs s' es ep tb,(∃ ob,s.heap.get? a=some ob/\ob.ExactSet/\ob.data= .set es ep tb)->List.Perm vs (es.toList.map (·.2))->(∀ b ob,s.heap.get? b=some ob->s'.heap.get? b=some ob)->s'.gens=s.gens->s'.os=s.os->Q vs s'):wpAny (model prog w) A (collect (.ref a)) Q E s:=by
 have tS: ∀ {h':Heap} {s':Shared},s'.heap=h'->(∀ b ob,s.heap.get? b=some ob->h'.get? b=some ob)->s'.TypeIs (.ref a) "set":=fun {h' s'} e k=>by
  obtain ⟨ob,es,ep,tb,⟨h1,h2,h3⟩,_⟩:=g
  exact ⟨ob,by rw [e];exact k _ _ h1,h2.1⟩
 have lta:a<s.heap.objs.size:=by
  obtain ⟨ob,es,ep,tb,⟨h1,h2,h3⟩,_⟩:=g
  exact qaQ h1
 unfold collect
 refine qaW (wpAny_runValue (codeAny_builtin F.entry_proto_collect ?_))
 rw [qap F.plain_proto_collect _]
 show wpAny _ _ (newList []>>=fun l=>again (.builtin "list.__iadd__" ⟨[l,.ref a],[]⟩)) _ _ _
 refine qaW (qaC (qaX ⟨plainId_quiet F.plain_list_iadd _,codeAny_builtin F.entry_list_iadd ?_⟩))
 rw [qap F.plain_list_iadd _]
 show wpAny _ _ (Builtin.List.listExtendWith (.ref s.heap.objs.size) (.ref a) (.ref s.heap.objs.size)) _ _ _
 unfold Builtin.List.listExtendWith
 have k1: ∀ b ob,s.heap.get? b=some ob->(s.heap.push {cls:= .type "list",data:= .seq ([]:List Value).toArray}).get? b=some ob:=fun b ob e=>qag _ e
 refine qaW (wpAny_typeOf (tS rfl k1) ?_)
 have nsame:Builtin.List.listSameRef (.ref s.heap.objs.size) (.ref a)=false:=by
  simp only [Builtin.List.listSameRef,beq_eq_false_iff_ne]
  exact fun z=>qaN _ (z▸lta)
 have nl:(Value.type "set"==Value.type "list")=false:=by decide
 have nt:(Value.type "set"==Value.type "tuple")=false:=by decide
 simp only [nsame,nl,nt,Bool.or_false,qax,if_false]
 refine qaW (zq7 (g.move (fun ob e=>k1 _ _ e) (fun _=>rfl) rfl) fun it es ep tb ord fp St h2 d hob W st0 lit k2 fpl few=> ?_)
 refine qaW (qaO ?_)
 unfold Builtin.List.listLengthHint
 have k12: ∀ b ob,s.heap.get? b=some ob->h2.get? b=some ob:=fun b ob e=>k2 b ob (k1 b ob e)
 refine qaW (wpAny_specialOf (tS rfl k12) F.slot_set_len.lookup ?_)
 have sp:splitId "set.__len__"=some ("set","__len__"):=by decide +kernel
 dsimp only
 rw [sp]
 dsimp only
 refine qaW (wpAny_isInstance (tS rfl k12) sub_set_self ?_)
 rw [qa5 (by decide)]
 rw [qa4 (by decide +kernel)]
 refine qaW (wpAny_typeOf (tS rfl k12) (qaX ?_))
 rw [qa4 (by decide +kernel)]
 refine qaW (wpAny_rule ?_)
 have l2:h2.get? s.heap.objs.size=some {cls:= .type "list",data:= .seq ([]:List Value).toArray}:=k2 _ _ (qar _ rfl)
 refine qaW ?_
 unfold Builtin.List.listTouch
 show wpAny _ _ (updateSeq s.heap.objs.size (·.push .none)>>=fun _=>updateSeq s.heap.objs.size (·.pop)) _ _ _
 refine qaW (wpAny_updateSeq l2 rfl ?_)
 have l3:=qal (Obj.mapSeq (·.push Value.none)) l2 rfl
 refine wpAny_updateSeq l3 rfl ?_
 have l4:=qal (Obj.mapSeq (·.pop)) l3 rfl
 have oth: ∀ b ob,b≠s.heap.objs.size->h2.get? b=some ob->((h2.update s.heap.objs.size (Obj.mapSeq (·.push Value.none))).update s.heap.objs.size (Obj.mapSeq (·.pop))).get? b=some ob:=fun b ob hb e=>
  (qah _ _ (Ne.symm hb)).trans ((qah _ _ (Ne.symm hb)).trans e)
 have nfp:s.heap.objs.size∉fp:=fun z=>by
  rcases fpl _ z with z | z
  ·exact qaN _ (z▸lta)
  ·rw [show ({s with heap:=s.heap.push {cls:= .type "list",data:= .seq ([]:List Value).toArray}}:Shared).heap.objs.size=s.heap.objs.size+1 from qaL ..] at z
   exact qaN _ z
 have fin: ∀ (s':Shared) (vs:Array Value) (c:Nat),(∀ b ob,s.heap.get? b=some ob->s'.heap.get? b=some ob)->s'.gens=s.gens->s'.os=s.os->s'.heap.get? s.heap.objs.size=some {cls:= .type "list",dict:=none,data:= .seq vs c,slots:= #[]}->ItemsOf (fun i v=> ∃ e,ord[i]? = some e/\v=e.2) vs es.size->
   wpAny (model prog w) A (load s.heap.objs.size>>=fun o=>match o.data with | .seq xs _=>pure xs.toList | _=>unsupported "internal:collect") Q E s':=fun s' vs c k g1 g2 e it1=>by
  refine qaW (wpAny_load e (qaX (q vs.toList s' es ep tb ?_ ?_ k g1 g2)))
  ·obtain ⟨ob,o1,o2⟩:=hob
   obtain ⟨ob',es',ep',tb',⟨p1,p2,p3⟩,_⟩:=g
   have:=k1 _ _ p1
   rw [o1] at this
   cases this
   exact ⟨ob,p1,o2⟩
  ·have hl:ord.length=es.size:=by simpa using W.perm.length_eq
   have e2:vs.toList=ord.map (·.2):=by
    apply List.ext_getElem?
    intro i
    by_cases hi:i<es.size
    ·have hv0:i<vs.size:=by rw [it1.1];exact hi
     have hv:vs[i]? = some vs[i]:=by simp [hv0]
     obtain ⟨e,e1,e2⟩:=it1.2 i _ hv
     rw [List.getElem?_map,e1,qaj,hv,e2]
     rfl
    ·rw [List.getElem?_eq_none (by simp [it1.1];omega),List.getElem?_eq_none (by simp [hl];omega)]
   rw [e2]
   exact W.perm.map _
 have Wk:=(W.walks A.in1 hh).toS
 refine qaX ⟨plainId_quiet F.plain_extend_loop _,codeAny_extend_loopS Wk ?_ _ nfp _ es.size 0 _ _ _ rfl (Nat.zero_le _) ?_ l4 (ItemsOf.nil _) fun s' vs c mv e it1=> ?_⟩
 ·exact fits_of_scanBound few
 ·exact (W.walks A.in1 hh).frame 0 h2 _ st0 fun b hb ob e=>oth b ob (fun z=>nfp (z▸hb)) e
 ·refine fin s' vs c (fun b ob e'=>mv.heap b ob ?_ (oth b ob ?_ (k12 b ob e'))) mv.gens mv.os e it1
  ·intro z
   rcases qaP.mp z with z | z
   ·exact qaN _ (z▸qaQ e')
   ·simp only [qaP,qaF,or_false] at z
    have:=qaQ e'
    rw [z] at this
    exact qaN _ (qaw this (qaS (by rw [qaL];exact Nat.le_succ _) lit))
  ·exact fun z=>qaN _ (z▸qaQ e')
end
noncomputable def zmi (x:Int):List Int->List Int
 | []=>[x]
 | y::r=>if x<=y then x::y::r else y::zmi x r
noncomputable def zbi:List Int->List Int
 | []=>[]
 | x::r=>zmi x (zbi r)
theorem zef (x:Int): ∀ l:List Int,List.Perm (zmi x l) (x::l)
 | []=> .rfl
 | y::r=>by
  unfold zmi
  split
  ·exact .rfl
  ·exact ((zef x r).cons y).trans (.swap x y r)
theorem zky {x z:Int} {l:List Int}:z∈zmi x l↔z=x\/z∈l:=by rw [(zef x l).mem_iff,qaP]
theorem zjb (x:Int): ∀ l:List Int,l.Pairwise (· <= ·)->(zmi x l).Pairwise (· <= ·)
 | [],_=>by unfold zmi;simp
 | y::r,h=>by
  obtain ⟨h1,h2⟩:=qay.mp h
  unfold zmi
  split
  ·rename_i hxy
   refine qay.mpr ⟨fun z hz=> ?_,h⟩
   rcases qaP.mp hz with e | hz
   ·rw [e];exact hxy
   ·exact Int.le_trans hxy (h1 z hz)
  ·rename_i hxy
   refine qay.mpr ⟨fun z hz=> ?_,zjb x r h2⟩
   rcases zky.mp hz with e | hz
   ·rw [e];omega
   ·exact h1 z hz
theorem zap: ∀ l:List Int,List.Perm (zbi l) l
 | []=> .rfl
 | x::r=>(zef x _).trans ((zap r).cons x)
theorem zcy: ∀ l:List Int,(zbi l).Pairwise (· <= ·)
 | []=> .nil
 | x::r=>zjb x _ (zcy r)
theorem zdN {a b:List Int} (hp:a.Perm b) (h:a.Pairwise (· <= ·)):a=zbi b:=W.ksm_same (hp.trans (zap b).symm) h (zcy b)
noncomputable def zdI (ns:List Int):List Int:=zbi (ns.foldl step_dedup [])
theorem zim (ns:List Int): ∀ (acc:List Int) (k:Int),(ns.foldl step_dedup acc).any (· == k)=(acc.any (· == k) || ns.any (· == k)):=by
 induction ns with
 | nil=>intro acc k;simp
 | cons x r ih=>
  intro acc k
  rw [List.foldl_cons,ih,step_any]
  simp only [List.any_cons]
  have:(x==k)=decide (k=x):=by
   by_cases h:k=x
   ·subst h;simp
   ·have h': ¬x=k:=fun e=>h e.symm
    simp [h,h']
  rw [this,Bool.or_assoc]
theorem zjs {ns:List Int} {k:Int}:k∈ns.foldl step_dedup []↔k∈ns:=by
 have:=zim ns [] k
 simp only [List.any_nil,Bool.false_or] at this
 have e: ∀ l:List Int,k∈l↔(l.any fun x=>x==k)=true:=fun l=>by
  rw [List.any_eq_true]
  constructor
  ·exact fun h=>⟨k,h,by simp⟩
  ·rintro ⟨x,h,c⟩
   have c:x=k:=by simpa using c
   rw [<- c]
   exact h
 rw [e,e,this]
theorem zdQ (ns:List Int): ∀ acc:List Int,acc.Nodup->(ns.foldl step_dedup acc).Nodup:=by
 induction ns with
 | nil=>intro acc h;exact h
 | cons x r ih=>
  intro acc h
  refine ih _ ?_
  unfold step_dedup
  split
  ·exact h
  ·rename_i hx
   rw [List.nodup_append]
   refine ⟨h,by simp,fun a ha b hb=> ?_⟩
   simp only [List.mem_singleton] at hb
   subst hb
   intro e
   subst e
   exact hx (List.any_eq_true.mpr ⟨a,ha,by simp⟩)
theorem zb4 {ns:List Int} {k:Int}:k∈zdI ns↔k∈ns:=by unfold zdI;rw [(zap _).mem_iff,zjs]
theorem zdm (ns:List Int):(zdI ns).Pairwise (· < ·):=by
 have h1:=zcy (ns.foldl step_dedup [])
 have h2:(zdI ns).Nodup:=(zap _).nodup_iff.mpr (zdQ ns [] List.nodup_nil)
 exact (List.Pairwise.and h1 h2).imp fun ⟨a,b⟩=>by omega
theorem zdS (ns:List Int):firstMet (fun i=>ns.getD i 0) ns.length=ns.foldl step_dedup []:=by
 unfold firstMet
 congr 1
 apply List.ext_getElem?
 intro i
 by_cases hi:i<ns.length
 ·simp [hi,List.getD]
 ·rw [List.getElem?_eq_none (by simp;omega),List.getElem?_eq_none (by omega)]
theorem zee: ∀ {fm ms:List Int},fm.Nodup->(∀ k,k∈fm->k∈ms)->ms.length<=fm.length->List.Perm ms fm
 | [],ms,_,_,h=>by
  have:ms=[]:=List.length_eq_zero_iff.mp (by simpa using h)
  subst this
  exact .rfl
 | x::r,ms,nd,hm,h=>by
  obtain ⟨n1,n2⟩:=List.nodup_cons.mp nd
  have hx:=hm x (.head _)
  have p:=List.perm_cons_erase hx
  have hl:=p.length_eq
  rw [qaE] at hl h
  refine p.trans ((zee n2 (fun k hk=> ?_) (by omega)).cons x)
  have hne:k≠x:=fun e=>n1 (e▸hk)
  rcases qaP.mp (p.mem_iff.mp (hm k (.tail _ hk))) with e | e
  ·exact absurd e hne
  ·exact e
section
variable {prog:Program} {w:World} {A:Around} {E:Value->Shared->Prop} {s:Shared}
theorem zfH {l l':List Value} {ns:List Int} (p:List.Perm l l') (h:IntsAre l' ns): ∃ ms,IntsAre l ms/\List.Perm ms ns:=by
 induction p generalizing ns with
 | nil=>exact ⟨ns,h,.rfl⟩
 | cons x _ ih=>
  cases h with
  | cons n t h=>
   obtain ⟨ms,h1,h2⟩:=ih h
   exact ⟨n::ms,.cons n t h1,h2.cons n⟩
 | swap x y l=>
  cases h with
  | cons n t h=>
   cases h with
   | cons n' t' h=>exact ⟨n'::n::_,.cons n' t' (.cons n t h),.swap _ _ _⟩
 | trans _ _ ih1 ih2=>
  obtain ⟨ms,h1,h2⟩:=ih2 h
  obtain ⟨ms',h3,h4⟩:=ih1 h1
  exact ⟨ms',h3,h4.trans h2⟩
theorem zez: ∀ {es:List (Int×Value)},ElemsOf (intKind prog w) es-> ∃ ms,IntsAre (es.map (·.2)) ms/\ ∀ k,k∈ms↔ ∃ e∈es,(intKind prog w).is k e.2=true
 | [],_=>⟨[],.nil,fun k=>by simp⟩
 | e::r,h=>by
  obtain ⟨ms,h1,h2⟩:=zez (ElemsOf.tail h)
  obtain ⟨⟨k,hk,_⟩,_⟩:=ElemsOf.head h
  obtain ⟨t,ht⟩:=Value.isInt_shape (k:=k) (v:=e.2) hk
  refine ⟨k::ms,by rw [qaM,ht];exact .cons k t h1,fun z=> ?_⟩
  rw [qaP,h2 z]
  constructor
  ·rintro (c | ⟨e',c1,c2⟩)
   ·exact ⟨e,.head _,by rw [c];exact hk⟩
   ·exact ⟨e',.tail _ c1,c2⟩
  ·rintro ⟨e',c1,c2⟩
   rcases qaP.mp c1 with c | c
   ·subst c;exact .inl ((intKind prog w).inj _ _ _ c2 hk)
   ·exact .inr ⟨e',c,c2⟩
theorem zd4 {x:Value} {Q:Value->Shared->Prop} (hc: ∀ E':Value->Shared->Prop,wpAny (model prog w) A.in1 (collect x) (fun vs s1=> ∃ ns,IntsAre vs ns/\vs.length<64/\ ∀ out e h',IntsAre out (zbi ns)->(∀ b ob,s1.heap.get? b=some ob->h'.get? b=some ob)->
      h'.get? s1.heap.objs.size=some (seqObj "list" out.toArray e)->Q (.ref s1.heap.objs.size) {s1 with heap:=h'}) E' s):wpAny (model prog w) A (call (.builtin "sorted") [x]) Q E s:=by
 refine Calls.call_function_entry kind_sorted plain_sorted entry_sorted (args_sorted1 _) ?_
 unfold Builtin.«sorted»
 refine qaW (m:=checkCount "sorted" 1 1 _) (qaX ?_)
 refine qaW (m:=collect x) (qaZ (hc _) (fun vs s1 ⟨ns,hI,h64,q⟩=> ?_) fun _ _ z=>z)
 have small:vs.length<=sizeLine:=qaS (Nat.le_of_lt h64) (by decide)
 refine qaW (wpAny_newList ?_ small)
 have at0:(s1.heap.push {cls:= .type "list",data:= .seq vs.toArray}).get? s1.heap.objs.size=some (seqObj "list" vs.toArray 0):=qar _ rfl
 refine qaW (qaO (wpAny_call_entry slot_list_sort ⟨_,at0,rfl⟩ entry_list_sort (list_sort_tree (s:={s1 with heap:=s1.heap.push {cls:= .type "list",data:= .seq vs.toArray}}) at0 hI h64 fun out ns' a1 a2 a3=>⟨_,rfl,?_⟩) (args_list_sort _)))
 obtain ⟨e,he⟩:=sortedHeap_at (out:=out) at0
 refine qaX ⟨_,rfl,q out.toList e _ ?_ (fun b ob eb=> ?_) (by simpa using he)⟩
 ·rw [<- zdN a2 a3];exact a1
 ·have lt:=qaQ eb
  rw [sortedHeap_old (qaR lt) (by rw [qaL];exact Nat.lt_succ_of_lt lt)]
  exact qag _ eb
theorem zgl {l:Addr} {vs:List Value} {Q:List Value->Shared->Prop} (hl:s.heap.IsTuple l vs.toArray) (small:vs.length<=sizeLine)
  (q: ∀ h',(∀ b ob,s.heap.get? b=some ob->h'.get? b=some ob)->Q vs {s with heap:=h'}):wpAny (model prog w) A (collect (.ref l)) Q E s:=by
 obtain ⟨ob,ho,hc,n,hd⟩:=id hl
 unfold collect
 refine qaW (wpAny_runValue (codeAny_builtin F.entry_proto_collect ?_))
 rw [qap F.plain_proto_collect _]
 show wpAny _ _ (newList []>>=fun d=>again (.builtin "list.__iadd__" ⟨[d,.ref l],[]⟩)) _ _ _
 refine qaW (qaC (qaX ⟨plainId_quiet F.plain_list_iadd _,codeAny_builtin F.entry_list_iadd ?_⟩))
 rw [qap F.plain_list_iadd _]
 show wpAny _ _ (Builtin.List.listExtendWith (.ref s.heap.objs.size) (.ref l) (.ref s.heap.objs.size)) _ _ _
 unfold Builtin.List.listExtendWith
 have ho':(s.heap.push {cls:= .type "list",data:= .seq ([]:List Value).toArray}).get? l=some ob:=qag _ ho
 have d0:(s.heap.push {cls:= .type "list",data:= .seq ([]:List Value).toArray}).get? s.heap.objs.size=some (seqObj "list" #[] 0):=qar _ rfl
 refine qaW (wpAny_typeOf (T:="tuple") ⟨ob,ho',hc⟩ ?_)
 rw [qa4 (by simp)]
 refine qaW (listItems_at ho' hd ?_)
 refine qaW (listItems_at d0 rfl ?_)
 rw [qa5 (by simp)]
 refine qaW (listUpdate_at (xs:= #[]) (n:=0) d0 rfl ?_ (Nat.zero_le _) (by show (#[]++vs.toArray).size<=sizeLine+1;simp;omega))
 refine qaX ?_
 show wpAny _ _ (load s.heap.objs.size>>=fun o=>match o.data with | .seq xs _=>pure xs.toList | _=>unsupported "internal:collect") _ _ _
 refine qaW (wpAny_load (get?_update_seq d0 _) ?_)
 have z:=q ((s.heap.push {cls:= .type "list",data:= .seq ([]:List Value).toArray}).update s.heap.objs.size (Obj.mapSeq fun x=>x++vs.toArray)) fun b ob e=>(qah _ _ (fun z=>qaN _ (z▸qaQ e))).trans (qag _ e)
 show wpAny _ _ (pure ((#[]:Array Value)++vs.toArray).toList) _ _ _
 rw [show ((#[]:Array Value)++vs.toArray).toList=vs by simp]
 exact qaX z
end
end LT
namespace L2
open PySem PySem.Spec PyProof.Rows LT
section
variable {X:Cx}
noncomputable def ziU (P:Program) (w:World) (p:Addr) (ns:List Int):HO:= .ext fun h=>zfl P w h p (fun z=>(ns.foldl step_dedup []).any (· == z)) (ns.foldl step_dedup []).length
theorem zjo (ns:List Int):(ns.foldl step_dedup []).length<=ns.length:=by
 rw [<- zdS]
 exact firstMet_length_le _ _
theorem zji (hc:X.calm=true):zax X (.type "set") (fun xs H Q=> ∃ (a:Addr) (ns:List Int),xs=[.ref a]/\(SqL X.K H a (ns.map V.int)\/SqT X.K H a (ns.map V.int))/\ns.length<4000/\ ∀ p,H p=none->Q (.ref p) (upd H p (ziU X.prog X.w p ns))):=by
 intro pins s σ H xs us Q I r h
 obtain ⟨a,ns,rfl,hq,hl,q⟩:=h
 obtain ⟨u,rfl,rx⟩:=zcS r
 cases rx
 have fin: ∀ (items:Array Value),items.size=ns.length-> ∀ (h':Heap) (tk:Nat),zfl X.prog X.w h' s.heap.objs.size (fun z=>(firstMet (fun i=>ns.getD i 0) items.size).any (· == z)) (firstMet (fun i=>ns.getD i 0) items.size).length->(∀ b ob,s.heap.get? b=some ob->h'.get? b=some ob)->
   EP X pins σ Q (.ref s.heap.objs.size) {s with heap:=h',toks:=tk}:=fun items hz h' tk g k=>by
  rw [hz,zdS] at g
  refine ⟨.ref s.heap.objs.size,_,I.laid (t':=tk) (o:=ziU X.prog X.w s.heap.objs.size ns) k (qaV _) ⟨g,?_,fun h1 h2 z e=>z.move e (fun _=>rfl) rfl⟩,rfl,q _ (I.hok.fresh (qaV _))⟩
  obtain ⟨ob,es,ep,tb,⟨h1,_⟩,_⟩:=g
  exact ⟨ob,h1⟩
 have room:ns.length+1<scanBound:=by
  have:scanBound=4096:=rfl
  omega
 rcases hq with hq | hq
 ·obtain ⟨its,r',pl,_⟩:=I.list hq
  have hz:its.toArray.size=ns.length:=by rw [qaA, <-r'.length,qaH]
  exact zrZ (I.ok.hd hc) (.inl ⟨rfl,pl.isList⟩) (by simpa using zbd r') (by rw [hz];exact room) fun h' tk g k=>fin _ hz h' tk g k
 ·obtain ⟨its,r',pl,_⟩:=I.tuple hq
  have hz:its.toArray.size=ns.length:=by rw [qaA, <-r'.length,qaH]
  exact zrZ (I.ok.hd hc) (.inr ⟨rfl,pl⟩) (by simpa using zbd r') (by rw [hz];exact room) fun h' tk g k=>fin _ hz h' tk g k
theorem Inv.grown {pins:List (Addr×Obj)} {σ:St} {H:Hp} {s s':Shared} (I:Inv X pins σ H s) (ho:s'.os=s.os) (hg:s'.gens=s.gens) (k: ∀ b ob,s.heap.get? b=some ob->s'.heap.get? b=some ob):Inv X pins σ H s':=
 I.call' (ch:=[]) ho (Un.kept k) (I.hok.kept k) (by rw [hg];exact I.bare) fun b z=>nomatch z
theorem zlb {out:List Value} {ms:List Int} (h:IntsAre out ms):zaI (ms.map V.int) out:=zdX h
theorem zdF (hc:X.calm=true):zax X (.builtin "sorted") (fun xs H Q=> ∃ (p:Addr) (ns:List Int),xs=[.ref p]/\((((ns.foldl step_dedup []).length<64/\H p=some (ziU X.prog X.w p ns))/\ ∀ l,H l=none->Q (.ref l) (upd H l (.lst ((zdI ns).map V.int))))\/
    ((ns.length<64/\(SqL X.K H p (ns.map V.int)\/SqT X.K H p (ns.map V.int)))/\ ∀ l,H l=none->Q (.ref l) (upd H l (.lst ((zbi ns).map V.int)))))):=by
 intro pins s σ H xs us Q I r h
 obtain ⟨p,ns,rfl,h⟩:=h
 obtain ⟨u,rfl,rx⟩:=zcS r
 cases rx
 have fin: ∀ (s1:Shared) (ms:List Int),ms.length<=64->(∀ b ob,s.heap.get? b=some ob->s1.heap.get? b=some ob)->s1.gens=s.gens->s1.os=s.os->(∀ l,H l=none->Q (.ref l) (upd H l (.lst ((zbi ms).map V.int))))-> ∀ out e h',IntsAre out (zbi ms)->(∀ b ob,s1.heap.get? b=some ob->h'.get? b=some ob)->
   h'.get? s1.heap.objs.size=some (seqObj "list" out.toArray e)->EP X pins σ Q (.ref s1.heap.objs.size) {s1 with heap:=h'}:=fun s1 ms hm k g1 o1 q out e h' hi k2 e2=>by
  have I1:=I.grown o1 g1 k
  refine ⟨.ref s1.heap.objs.size,_,I1.laid (t':=s1.toks) (o:= .lst ((zbi ms).map V.int)) k2 (qaV _) ⟨?_,out,e,zlb hi,e2⟩,rfl,q _ (I1.hok.fresh (qaV _))⟩
  rw [qaH,(zap ms).length_eq]
  exact qaS hm (by decide)
 rcases h with ⟨⟨hl,hs⟩,q⟩ | ⟨⟨hl,hq⟩,q⟩
 ·obtain ⟨g,_⟩:=(show zbp X.prog X.w H s.heap p (ziU X.prog X.w p ns) from I.hok p _ hs)
  refine zd4 fun E'=>zlm (show X.A.in1.handled=none from I.ok.hd hc) g fun vs s1 es ep tb hob pv k g1 o1=> ?_
  obtain ⟨ob',es',ep',tb',⟨a1,a2,a3⟩,h4,h5,⟨h6,h7,h8⟩,h9⟩:=g
  obtain ⟨ob,b1,b2,b3⟩:=hob
  rw [a1] at b1
  cases b1
  rw [a3] at b3
  cases b3
  obtain ⟨ms,m1,m2⟩:=zez h4
  obtain ⟨ms',m3,m4⟩:=zfH pv m1
  have len:ms.length=(ns.foldl step_dedup []).length:=by
   rw [<- m1.length,qaH,qas]
   exact h8
  have pm:List.Perm ms (ns.foldl step_dedup []):=zee (zdQ ns [] List.nodup_nil) (fun z hz=>by
    rw [m2 z, <-h5 z]
    exact List.any_eq_true.mpr ⟨z,hz,by simp⟩) (Nat.le_of_eq len)
  have es1:zbi ms'=zdI ns:=by
   unfold zdI
   exact zdN ((zap ms').trans (m4.trans pm)) (zcy ms')
  have lm:ms'.length<64:=by
   rw [m4.length_eq,len]
   exact hl
  refine ⟨ms',m3,by rw [m3.length];omega,fun out e h' hi k2 e2=> ?_⟩
  exact fin s1 ms' (by omega) k g1 o1 (by rw [es1];exact q) out e h' hi k2 e2
 ·rcases hq with hq | hq
  ·obtain ⟨its,r',pl,hz⟩:=I.list hq
   have hi:=zbd r'
   have lz:its.length=ns.length:=by rw [<- r'.length,qaH]
   refine zd4 fun E'=>collect_list pl.isList ?_ (by rw [lz, <-qaH (f:=V.int)];exact hz)
   refine ⟨ns,hi,by omega,fun out e h' hi2 k2 e2=> ?_⟩
   refine fin {s with heap:=(s.heap.push (seqObj "list" #[] 0)).update s.heap.objs.size (Obj.mapSeq fun x=>x++its.toArray)} ns (by omega) (fun b ob eb=> ?_) rfl rfl q out e h' hi2 k2 e2
   exact (qah _ _ (fun z=>qaN _ (z▸qaQ eb))).trans (qag _ eb)
  ·obtain ⟨its,r',pl,hz⟩:=I.tuple hq
   have hi:=zbd r'
   have lz:its.length=ns.length:=by rw [<- r'.length,qaH]
   refine zd4 fun E'=>zgl pl (by rw [lz, <-qaH (f:=V.int)];exact hz) fun h1 k1=> ?_
   refine ⟨ns,hi,by omega,fun out e h' hi2 k2 e2=> ?_⟩
   exact fin {s with heap:=h1} ns (by omega) k1 rfl rfl q out e h' hi2 k2 e2
theorem zjT (hc:X.calm=true):zax X (.builtin "all") (fun xs H Q=> ∃ (a:Addr) (bs:List Bool),xs=[.ref a]/\SqL X.K H a (bs.map V.bl)/\Q (.bl (bs.all id)) H):=by
 intro pins s σ H xs us Q I r h
 obtain ⟨a,bs,rfl,hq,q⟩:=h
 obtain ⟨u,rfl,rx⟩:=zcS r
 cases rx
 obtain ⟨its,r',pl,hz⟩:=I.list hq
 have hlt:a<s.heap.objs.size:=by obtain ⟨_,e,_⟩:=pl.isList;exact qaQ e
 refine call_all_walk (wpAny_pyIter_list pl.isList ?_)
 refine ⟨s.heap.objs.size,[s.heap.objs.size,a],[s.heap.objs.size],its.toArray.size,_,_,fun i=>(bs[i]?).getD true,rfl,Walks.list (A:=X.A.in1) (I.ok.hd hc) _ a (qaR hlt) its.toArray,⟨⟨_,qar _ rfl,rfl,rfl⟩,pl.isList.push _⟩,fun i v s' Q' E' hP hQ=> ?_,fun h' tk hk=> ?_⟩
 ·have hv:its[i]? = some v:=by simpa using hP
  obtain ⟨hi,_⟩:=qac.mp hv
  have hlen:bs.length=its.length:=by rw [<- r'.length,qaH]
  have hb:(bs.map V.bl)[i]? = some (V.bl bs[i]):=by simp [hlen,hi]
  obtain ⟨u',hu,ru⟩:=r'.get hb
  rw [hv] at hu
  cases hu
  cases ru
  have e:(bs[i]?).getD true=bs[i]:=by simp [hlen,hi]
  have hQ:Q' ((bs[i]?).getD true) s':=hQ
  rw [e] at hQ
  exact wpAny_truthy_bool hQ
 ·have e:((List.range its.toArray.size).all fun i=>(bs[i]?).getD true)=bs.all id:=by
   have hlen:bs.length=its.length:=by rw [<- r'.length,qaH]
   rw [qaA, <-hlen]
   rw [Bool.eq_iff_iff,List.all_eq_true,List.all_eq_true]
   constructor
   ·intro h x hx
    obtain ⟨i,hi⟩:=List.mem_iff_getElem?.mp hx
    have hl:=(qac.mp hi).1
    have:=h i (by simpa using hl)
    rw [hi] at this
    exact this
   ·intro h i hi
    have hl:i<bs.length:=by simpa using hi
    have e1:bs[i]? = some bs[i]:=by simp [hl]
    rw [e1]
    exact h _ (List.getElem_mem hl)
  rw [e]
  refine ⟨.bl _,H,I.grown (s':={s with heap:=h',toks:=tk}) rfl rfl fun b ob eb=>hk b ob (fun z=> ?_) (qag _ eb),rfl,q⟩
  simp only [qaP,qaF,or_false] at z
  exact qaN _ (z▸qaQ eb)
theorem zj4 (hc:X.calm=true):zax X (.builtin "sum") (fun xs H Q=> ∃ (a:Addr) (ns:List Int),xs=[.ref a]/\SqL X.K H a (ns.map V.int)/\Q (.int ns.sum) H):=by
 intro pins s σ H xs us Q I r h
 obtain ⟨a,ns,rfl,hq,q⟩:=h
 obtain ⟨u,rfl,rx⟩:=zcS r
 cases rx
 obtain ⟨its,r',pl,hz⟩:=I.list hq
 have hi:=zbd r'
 obtain ⟨ys,hy⟩:=hi.allInts.items
 have hl:s.heap.IsList a (intItems ys):=hy▸pl.isList
 refine sum_intListG (I.ok.hd hc) hl fun h' tk t' hk=> ?_
 have e1:ns=ys.toList.map (·.1):=by
  rw [<- nums_intItems, <-hy]
  exact (show numsOf its.toArray.toList=ns from hi.numsOf).symm
 have e2:preSum (numAt ys) ys.size=ns.sum:=by rw [preSum_eq,List.take_of_length_le (by simp),e1]
 rw [e2]
 exact ⟨.int ns.sum,H,I.grown (s':={s with heap:=h',toks:=tk}) rfl rfl hk,⟨t',rfl⟩,q⟩
end
end L2
namespace L3
open PySem PySem.Spec PyProof.Rows L2 LT
section
variable {X:Cx} {E:XE} {e:Expr} {es:List Expr} {pos p:Pos} {fs:Sd->M (List D)} {x:Str}
theorem zks {id:String} {F:List D->M D} (hc:zax X (.builtin id) (zgO X.K E F)) (hg:Gl X x) (hm:X.mg x=none) (hv:bootBuiltins x=some (.builtin id)) (ha:SA X E (e::es) fs) (hn:x≠"__name__":=by decide) (hdb:(x==("__debug__":Str))=false:=by decide)
  (he:starEach (e::es) X.env=(false,eval e X.env)::starEach es X.env:=by rfl) (hpl:(backTo pos (starEach es X.env)).any (·.1)=false:=by rfl):SE X E (.Call (.Name x p) (e::es) [] pos) (fun sd=>do let ds<-fs sd;F ds):=
 PE.imp (zc7 hc hg hm hv ha hn hdb he hpl) fun σ H Q ⟨ι,h,sd,L,hh,q⟩=>⟨ι,h,sd,L,hh,Fin.bind q fun ds h1 ι1 H1 e1 s1 hr1 q1 vs rv=>⟨ι1,h1,ds,rv,hr1,q1⟩⟩
theorem ziO {T:String} {F:List D->M D} (hc:zax X (.type T) (zgO X.K E F)) (hg:Gl X x) (hm:X.mg x=none) (hv:bootBuiltins x=some (.type T)) (ha:SA X E (e::es) fs) (hn:x≠"__name__":=by decide) (hdb:(x==("__debug__":Str))=false:=by decide)
  (he:starEach (e::es) X.env=(false,eval e X.env)::starEach es X.env:=by rfl) (hpl:(backTo pos (starEach es X.env)).any (·.1)=false:=by rfl):SE X E (.Call (.Name x p) (e::es) [] pos) (fun sd=>do let ds<-fs sd;F ds):=
 PE.imp (zdb hc hg hm hv ha hn hdb he hpl) fun σ H Q ⟨ι,h,sd,L,hh,q⟩=>⟨ι,h,sd,L,hh,Fin.bind q fun ds h1 ι1 H1 e1 s1 hr1 q1 vs rv=>⟨ι1,h1,ds,rv,hr1,q1⟩⟩
noncomputable def zkc:D->M (List D)
 | .tup ds=>pure ds
 | .lst ds=>pure ds
 | .scr ds=>pure ds
 | .cel n=>zag n
 | _=>M.bad
theorem zcQ {K:W.Frag} {ι:Io} {H:Hp} {h:Hh} {d:D} {v:V} {α:Type} {f:List D->M α} {P:α->Io->Hp->Prop} (hr:zaN K ι H h) (r:Rel K ι H d v) (q:Fin K E ι H ((do let ds<-zkc d;f ds) h) P):
  ∃ a vs ds,v= .ref a/\((SqL K H a vs/\ ∀ ts,d≠ .tup ts)\/(SqT K H a vs/\d= .tup ds))/\zal K ι H ds vs/\Fin K E ι H (f ds h) P:=by
 cases d with
 | tup ds=>
  obtain ⟨a,vs,e,h1,h2⟩:=zck r
  exact ⟨a,vs,ds,e,.inr ⟨h1,rfl⟩,h2,q⟩
 | lst ds=>
  obtain ⟨a,vs,e,h1,h2⟩:=zc5 r
  exact ⟨a,vs,ds,e,.inl ⟨h1,fun _ z=>by cases z⟩,h2,q⟩
 | scr ds=>
  obtain ⟨a,vs,e,h1,h2⟩:=zjQ r
  exact ⟨a,vs,ds,e,.inl ⟨h1,fun _ z=>by cases z⟩,h2,q⟩
 | cel n=>
  have q':Fin K E ι H (M.bind (zag n) f h) P:=q
  unfold M.bind at q'
  cases z:zag n h with
  | bad=>rw [z] at q';exact qa0 q'
  | exc c h'=>unfold zag at z;split at z<;>cases z
  | ok ds h'=>
   rw [z] at q'
   obtain ⟨rfl,z2⟩:=zb3 z
   obtain ⟨a,vs,e,hn,hH,rl⟩:=hr.read r z2
   exact ⟨a,vs,ds,e,.inl ⟨SqL.of hH,fun _ z=>by cases z⟩,rl,q'⟩
 | _=>exact qa0 q
theorem znl {K:W.Frag} {H:Hp} {a:Addr} {vs:List V} {d:D} {ds:List D} (h:(SqL K H a vs/\ ∀ ts,d≠ .tup ts)\/(SqT K H a vs/\d= .tup ds)):SqL K H a vs\/SqT K H a vs:=h.imp And.left And.left
theorem zrh {K:W.Frag} {ι:Io} {H:Hp} {d:D} {xs:List V} (h:zal K ι H [d] xs): ∃ v,xs=[v]/\Rel K ι H d v:=by
 simp only [zal] at h
 obtain ⟨v,r,rfl,h1,rfl⟩:=h
 exact ⟨v,rfl,h1⟩
noncomputable def zkD {α:Type} (f:D->M α):List D->M α
 | [d]=>f d
 | _=>M.bad
theorem zcc {α:Type} {K:W.Frag} {ι:Io} {H:Hp} {h:Hh} {f:D->M α} {ds:List D} {xs:List V} {P:α->Io->Hp->Prop} (rl:zal K ι H ds xs) (q:Fin K E ι H (zkD f ds h) P): ∃ d v,xs=[v]/\Rel K ι H d v/\Fin K E ι H (f d h) P:=by
 match ds,rl,q with
 | [d],rl,q=>
  obtain ⟨v,e,r⟩:=zrh rl
  exact ⟨d,v,e,r,q⟩
 | [],_,q=>exact qa0 q
 | _::_::_,_,q=>exact qa0 q
noncomputable def zgp:List D->M D:=zkD fun d=>do let ds<-zkc d;pure (.int ds.length)
theorem za9:zax X (.builtin "len") (zgO X.K E zgp):=by
 refine zax.imp zf5 fun xs H Q ⟨ι,h,ds,rl,hr,q⟩=> ?_
 obtain ⟨d,v,e,r,q⟩:=zcc rl q
 obtain ⟨a,vs,ds',e',hs,rl',q⟩:=zcQ hr r q
 exact ⟨a,vs,by rw [e,e'],znl hs,Fin.out hr q _ (by rw [rl'.length];simp [Rel])⟩
noncomputable def zcm:List D->M D:=zkD fun d=>do let ds<-zkc d;pure (.tup ds)
theorem zaR:zax X (.type "tuple") (zgO X.K E zcm):=by
 refine zax.imp zeQ fun xs H Q ⟨ι,h,ds,rl,hr,q⟩=> ?_
 obtain ⟨d,v,e,r,q⟩:=zcc rl q
 obtain ⟨a,vs,ds',e',hs,rl',q⟩:=zcQ hr r q
 refine ⟨a,vs,by rw [e,e'],?_⟩
 rcases hs with ⟨hs,_⟩ | ⟨hs,hd⟩
 ·exact .inl ⟨hs,fun l hl=>zp6 hr rl' q hl⟩
 ·exact .inr ⟨hs,Fin.out hr q _ (by rw [<- e', <-hd];exact r)⟩
noncomputable def zrS:List D->M D:=zkD fun d=>do let ds<-zkc d;pure (.lst ds)
noncomputable def two2 (g:Int->Int->Int):List D->M D
 | [.int i,.int j]=>pure (.int (g i j))
 | _=>M.bad
theorem two2_inv {K:W.Frag} {ι:Io} {H:Hp} {h:Hh} {g:Int->Int->Int} {ds:List D} {xs:List V} {P:D->Io->Hp->Prop} (hr:zaN K ι H h) (rl:zal K ι H ds xs) (q:Fin K E ι H (two2 g ds h) P): ∃ i j,xs=[.int i,.int j]/\P (.int (g i j)) ι H:=by
 unfold two2 at q
 split at q
 ·simp only [zal,Rel] at rl
  obtain ⟨v,r,rfl,rfl,v',r',rfl,rfl,rfl⟩:=rl
  exact ⟨_,_,rfl,Fin.out hr q⟩
 ·exact qa0 q
noncomputable def znh:=two2 fun i j=>if j>i then j else i
noncomputable def zmv:=two2 fun i j=>if j<i then j else i
theorem zig (hc:X.calm=true):zax X (.builtin "max") (zgO X.K E znh):=by
 refine zax.imp (zi0 hc) fun xs H Q ⟨ι,h,ds,rl,hr,q⟩=> ?_
 obtain ⟨i,j,e,q⟩:=two2_inv hr rl q
 exact ⟨i,j,e,q _ (by simp [Rel])⟩
theorem zh5 (hc:X.calm=true):zax X (.builtin "min") (zgO X.K E zmv):=by
 refine zax.imp (ziL hc) fun xs H Q ⟨ι,h,ds,rl,hr,q⟩=> ?_
 obtain ⟨i,j,e,q⟩:=two2_inv hr rl q
 exact ⟨i,j,e,q _ (by simp [Rel])⟩
noncomputable def zlk:List D->Option (List Bool)
 | []=>some []
 | .bl b::r=>(zlk r).map (b:: ·)
 | _=>none
noncomputable def zbI:List D->Option (List Int)
 | []=>some []
 | .int i::r=>(zbI r).map (i:: ·)
 | _=>none
theorem ze6 {K:W.Frag} {ι:Io} {H:Hp}: ∀ {ds:List D} {vs:List V} {bs:List Bool},zal K ι H ds vs->zlk ds=some bs->vs=bs.map V.bl
 | [],_,_,h,e=>by simp only [zal] at h;subst h;cases e;rfl
 | d::ds,_,bs,h,e=>by
  simp only [zal] at h
  obtain ⟨v,r,rfl,h1,h2⟩:=h
  cases d with
  | bl b=>
   unfold zlk at e
   cases z:zlk ds with
   | none=>rw [z] at e;cases e
   | some cs=>
    rw [z] at e
    cases e
    simp only [Rel] at h1
    rw [h1,ze6 h2 z]
    rfl
  | _=>cases e
theorem zb1 {K:W.Frag} {ι:Io} {H:Hp}: ∀ {ds:List D} {vs:List V} {bs:List Int},zal K ι H ds vs->zbI ds=some bs->vs=bs.map V.int
 | [],_,_,h,e=>by simp only [zal] at h;subst h;cases e;rfl
 | d::ds,_,bs,h,e=>by
  simp only [zal] at h
  obtain ⟨v,r,rfl,h1,h2⟩:=h
  cases d with
  | int b=>
   unfold zbI at e
   cases z:zbI ds with
   | none=>rw [z] at e;cases e
   | some cs=>
    rw [z] at e
    cases e
    simp only [Rel] at h1
    rw [h1,zb1 h2 z]
    rfl
  | _=>cases e
theorem Fin.ofOb {α β:Type} {K:W.Frag} {ι:Io} {H:Hp} {h:Hh} {o:Option α} {f:α->M β} {P:β->Io->Hp->Prop} (q:Fin K E ι H ((do let a<-L3.ofO o;f a) h) P): ∃ a,o=some a/\Fin K E ι H (f a h) P:=by
 cases o with
 | none=>exact qa0 q
 | some a=>exact ⟨a,rfl,q⟩
noncomputable def zq1:List D->M D:=zkD fun d=>match d with
 | .lst ds=>do let bs<-ofO (zlk ds);pure (.bl (bs.all id))
 | _=>M.bad
theorem zio (hc:X.calm=true):zax X (.builtin "all") (zgO X.K E zq1):=by
 refine zax.imp (zjT hc) fun xs H Q ⟨ι,h,ds,rl,hr,q⟩=> ?_
 obtain ⟨d,v,e,r,q⟩:=zcc rl q
 cases d with
 | lst ds=>
  obtain ⟨a,vs,e',h1,h2⟩:=zc5 r
  obtain ⟨bs,eb,q⟩:=Fin.ofOb q
  have:=ze6 h2 eb
  subst this
  exact ⟨a,bs,by rw [e,e'],h1,Fin.out hr q _ (by simp [Rel])⟩
 | _=>exact qa0 q
noncomputable def zpP:List D->M D:=zkD fun d=>match d with
 | .lst ds=>do let bs<-ofO (zbI ds);pure (.int bs.sum)
 | _=>M.bad
theorem zju (hc:X.calm=true):zax X (.builtin "sum") (zgO X.K E zpP):=by
 refine zax.imp (zj4 hc) fun xs H Q ⟨ι,h,ds,rl,hr,q⟩=> ?_
 obtain ⟨d,v,e,r,q⟩:=zcc rl q
 cases d with
 | lst ds=>
  obtain ⟨a,vs,e',h1,h2⟩:=zc5 r
  obtain ⟨bs,eb,q⟩:=Fin.ofOb q
  have:=zb1 h2 eb
  subst this
  exact ⟨a,bs,by rw [e,e'],h1,Fin.out hr q _ (by simp [Rel])⟩
 | _=>exact qa0 q
noncomputable def zdY:List D->M D:=zkD fun d=>do
 let ds<-zkc d
 let ns<-ofO (zbI ds)
 if ns.length<64 then pure (.lst ((zbi ns).map D.int)) else M.bad
theorem zdz (hc:X.calm=true):zax X (.builtin "sorted") (zgO X.K E zdY):=by
 refine zax.imp (zdF hc) fun xs H Q ⟨ι,h,ds,rl,hr,q⟩=> ?_
 obtain ⟨d,v,e,r,q⟩:=zcc rl q
 obtain ⟨a,vs,ds',e',hs,rl',q⟩:=zcQ hr r q
 obtain ⟨ns,en,q⟩:=Fin.ofOb q
 have:=zb1 rl' en
 subst this
 obtain ⟨hl,q⟩:=Fin.guard q
 exact ⟨a,ns,by rw [e,e'],.inr ⟨⟨hl,znl hs⟩,fun l hl=>znH hr (zb2.mpr rfl) q hl⟩⟩
noncomputable def zbo (d:D):M D:=do
 let ds<-zkc d
 let ns<-ofO (zbI ds)
 if (ns.foldl step_dedup []).length<64/\ns.length<4000 then pure (.lst ((zdI ns).map D.int)) else M.bad
theorem zhX {p1 p2 pos2:Pos} {f:Sd->M D} (hc:X.calm=true) (hg1:Gl X "sorted") (hm1:X.mg "sorted"=none) (hg2:Gl X "set") (hm2:X.mg "set"=none) (he:SE X E e f)
  (h1:starEach [.Call (.Name "set" p2) [e] [] pos2] X.env=[(false,eval (.Call (.Name "set" p2) [e] [] pos2) X.env)]:=by rfl) (h2:starEach [e] X.env=[(false,eval e X.env)]:=by rfl):
  SE X E (.Call (.Name "sorted" p1) [.Call (.Name "set" p2) [e] [] pos2] [] pos) (fun sd=>do let d<-f sd;zbo d):=by
 refine PE.imp (zc7 (zdF hc) hg1 hm1 boot_sorted (za2 (zdb (zji hc) hg2 hm2 PyProof.Rows.boot_set (za2 he zcj h2) (he:=h2)) zcj h1) (he:=h1)) fun σ H Q ⟨ι,h,sd,L,hh,q⟩=>⟨ι,h,sd,L,hh,Fin.bind q fun d h1 ι1 H1 e1 s1 hr1 q1 v rv=> ?_⟩
 obtain ⟨a,vs,ds',e',hs,rl',q2⟩:=zcQ hr1 rv q1
 obtain ⟨ns,en,q3⟩:=Fin.ofOb q2
 have:=zb1 rl' en
 subst this
 obtain ⟨hl,q4⟩:=Fin.guard q3
 refine ⟨a,ns,by rw [e'],znl hs,hl.2,fun p hp=> ?_⟩
 have hr2:zaN X.K ι1 (upd H1 p (ziU X.prog X.w p ns)) h1:=hr1.laid hp
 exact ⟨p,ns,rfl,.inl ⟨⟨hl.1,zau⟩,fun l hl'=>znH hr2 (zb2.mpr rfl) (Fin.step (hr1.laidS hp) q4) hl'⟩⟩
end
noncomputable def tyD:D->M String
 | .non=>pure "NoneType"
 | .bl _=>pure "bool"
 | .int _=>pure "int"
 | .str _=>pure "str"
 | .tup _=>pure "tuple"
 | .lst _=>pure "list"
 | .dct=>pure "dict"
 | .cel n=>do let _<-zag n;pure "list"
 | _=>M.bad
noncomputable def zjJ:List String:=["NoneType","bool","int","str","tuple","list","dict"]
noncomputable def isB (T t:String):Bool:=t==T || (t=="bool" && T=="int")
noncomputable def zkb (T:String) (d:D):M D:=do let t<-tyD d;pure (.bl (isB T t))
def zhW (T:String):Prop:= ∀ (K:W.Frag), ∀ t∈zjJ,W.kitOne K (.type t) (.type T)=some (isB T t)
noncomputable def zr0 (t T:String):Option Bool:=if ((Value.type t)==(Value.type T))=true then some true else if W.kitMeta T=true then (fastBuiltinMro t).map (·.contains (Value.type T)) else none
theorem zfa {T:String} (h:(zjJ.all fun t=>zr0 t T==some (isB T t))=true):zhW T:=fun K t ht=>by
 have:=List.all_eq_true.mp h t ht
 have e:W.kitOne K (.type t) (.type T)=zr0 t T:=rfl
 rw [e]
 exact beq_iff_eq.mp this
theorem zmC:zhW "int":=zfa (by decide +kernel)
theorem zlw:zhW "bool":=zfa (by decide +kernel)
theorem zls:zhW "list":=zfa (by decide +kernel)
section
variable {X:Cx} {E:XE} {α:Type}
theorem znF {K:W.Frag} {ι:Io} {H:Hp} {h:Hh} {d:D} {v:V} {f:String->M α} {P:α->Io->Hp->Prop} (hr:zaN K ι H h) (r:Rel K ι H d v) (q:Fin K E ι H ((do let t<-tyD d;f t) h) P):
  ∃ t,t∈zjJ/\zhu K H v (.type t)/\Fin K E ι H (f t h) P:=by
 cases d with
 | non=>simp only [Rel] at r;subst r;exact ⟨_,by decide,.non,q⟩
 | bl b=>simp only [Rel] at r;subst r;exact ⟨_,by decide,.bl b,q⟩
 | int b=>simp only [Rel] at r;subst r;exact ⟨_,by decide,.int b,q⟩
 | str b=>simp only [Rel] at r;subst r;exact ⟨_,by decide,.str b,q⟩
 | tup ds=>
  simp only [Rel] at r
  obtain ⟨a,vs,e,h1,h2⟩:=r
  subst e
  exact ⟨_,by decide,.tup h1.1,q⟩
 | lst ds=>
  simp only [Rel] at r
  obtain ⟨a,vs,e,h1,h2⟩:=r
  subst e
  exact ⟨_,by decide,.lst h1.1,q⟩
 | dct=>
  simp only [Rel] at r
  obtain ⟨a,e,h1,h2⟩:=r
  subst e
  exact ⟨_,by decide,.dK h1,q⟩
 | cel n=>
  have q':Fin K E ι H (M.bind (zag n) (fun _=>f "list") h) P:=by
   have e:(do let t<-tyD (.cel n);f t:M α)=(zag n>>=fun _=>f "list"):=by
    show ((zag n>>=fun _=>pure "list")>>=f)=_
    simp only [bind_assoc,pure_bind]
   rw [e] at q
   exact q
  unfold M.bind at q'
  cases z:zag n h with
  | bad=>rw [z] at q';exact qa0 q'
  | exc c h'=>unfold zag at z;split at z<;>cases z
  | ok ds h'=>
   rw [z] at q'
   obtain ⟨rfl,z2⟩:=zb3 z
   obtain ⟨a,vs,e,hn,hH,rl⟩:=hr.read r z2
   subst e
   exact ⟨_,by decide,.lst hH,q'⟩
 | _=>exact qa0 q
theorem zlC:zax X (.builtin "isinstance") (fun xs H Q=> ∃ x t T b,xs=[x,.ty T]/\zhu X.K H x t/\W.kitOne X.K t (.type T)=some b/\Q (.bl b) H):=by
 intro pins s σ H xs us Q I r h
 obtain ⟨x,t,T,b,rfl,ty,e,q⟩:=h
 cases r with
 | cons r1 r2=>
  cases r2 with
  | cons r3 r4=>
   cases r4
   cases r3
   exact zjk I r1 ty e fun tk=>⟨.bl b,H,I.tok tk,rfl,q⟩
theorem zor {a:Expr} {x:Str} {T:String} {p1 p2 pos:Pos} {fa:Sd->M D} (hk:zhW T) (hg:Gl X "isinstance") (hm:X.mg "isinstance"=none) (hgT:Gl X x) (hmT:X.mg x=none) (hvT:bootBuiltins x=some (.type T)) (ha:SE X E a fa)
  (hn:x≠"__name__":=by decide) (hd:(x==("__debug__":Str))=false:=by decide)
  (h1:starEach [a,.Name x p2] X.env=(false,eval a X.env)::starEach [.Name x p2] X.env:=by rfl) (h2:starEach [.Name x p2] X.env=[(false,eval (.Name x p2) X.env)]:=by rfl)
  (hpl:(backTo pos (starEach [.Name x p2] X.env)).any (·.1)=false:=by rfl):
  SE X E (.Call (.Name "isinstance" p1) [a,.Name x p2] [] pos) (fun sd=>do let d<-fa sd;zkb T d):=by
 refine PE.imp (zc7 zlC hg hm PyProof.Rows.boot_isinstance (za2 ha (za2 (zjL (v:= .ty T) hgT hmT hvT rfl hn hd) zcj h2) h1) (he:=h1) (hpl:=hpl)) fun σ H Q ⟨ι,h,sd,L,hh,q⟩=>⟨ι,h,sd,L,hh,Fin.bind q fun d h1 ι1 H1 e1 s1 hr1 q1 v rv=> ?_⟩
 obtain ⟨t,ht,ty,q2⟩:=znF hr1 rv q1
 exact ⟨v,.type t,T,isB T t,rfl,ty,hk X.K t ht,Fin.out hr1 q2 _ (by simp [Rel])⟩
noncomputable def zpI:D->D->M D
 | .bl a,.bl b=>pure (.bl (a != b))
 | _,_=>M.bad
noncomputable def zh8 (xs:List D) (lo hi:Option Int):List D:=(xs.drop (HT.sIx xs.length 0 lo)).take (HT.sIx xs.length xs.length hi - HT.sIx xs.length 0 lo)
noncomputable def dSl (d:D) (lo hi:Option Int):M D:=match d with
 | .tup ds=>pure (.tup (zh8 ds lo hi))
 | .lst ds=>pure (.lst (zh8 ds lo hi))
 | _=>M.bad
noncomputable def zsj (K:W.Frag) (E:XE) (f:Sd->M (Option Int)):TO:=fun σ H Q=> ∃ ι h sd,zbu K ι H sd σ/\zaN K ι H h/\Fin K E ι H (f sd h) fun o ι' H'=>Q o H'
noncomputable abbrev SO (X:Cx) (E:XE) (e:Option Expr) (f:Sd->M (Option Int)):Prop:=PO X e (zsj X.K E f)
theorem PO.imp {e:Option Expr} {t t':TO} (h:PO X e t) (m: ∀ σ H Q,t' σ H Q->t σ H Q):PO X e t':=fun pins s σ H Q I q=>h pins s σ H Q I (m _ _ _ q)
noncomputable def zlp:Sd->M (Option Int):=fun _=>pure none
noncomputable def zmZ:D->M (Option Int)
 | .int i=>pure (some i)
 | _=>M.bad
noncomputable def zlr (f:Sd->M D):Sd->M (Option Int):=fun sd=>do let d<-f sd;zmZ d
theorem ziB:SO X E none zlp:=PO.imp zni fun σ H Q ⟨ι,h,sd,L,hh,q⟩=>Fin.out hh q
theorem zjK {e:Expr} {f:Sd->M D} (h:SE X E e f):SO X E (some e) (zlr f):=by
 refine PO.imp (znP h) fun σ H Q ⟨ι,h,sd,L,hh,q⟩=>⟨ι,h,sd,L,hh,Fin.bind q fun d h1 ι1 H1 e1 s1 hr1 q1 v rv=> ?_⟩
 cases d with
 | int i=>simp only [Rel] at rv;exact ⟨i,rv,Fin.out hr1 q1⟩
 | _=>exact qa0 q1
noncomputable def cSl (f:Sd->M D) (lo hi:Sd->M (Option Int)):Sd->M D:=fun sd=>do let d<-f sd;let l<-lo sd;let u<-hi sd;dSl d l u
theorem zhj {e:Expr} {lo hi:Option Expr} {p2 pos:Pos} {f:Sd->M D} {fl fh:Sd->M (Option Int)} (he:SE X E e f) (hl:SO X E lo fl) (hu:SO X E hi fh):SE X E (.Subscript e (.Slice lo hi none p2) pos) (cSl f fl fh):=by
 refine PE.imp (zkW (znz.or (zp1.or zn4)) he hl hu) fun σ H Q ⟨ι,h,sd,L,hh,q⟩=>⟨ι,h,sd,L,hh,Fin.bind q fun d h1 ι1 H1 e1 s1 hr1 q1 v rv=> ?_⟩
 refine ⟨ι1,h1,sd,L.step s1,hr1,Fin.bind q1 fun l h2 ι2 H2 e2 s2 hr2 q2=> ?_⟩
 refine ⟨ι2,h2,sd,(L.step s1).step s2,hr2,Fin.bind q2 fun u h3 ι3 H3 e3 s3 hr3 q3=> ?_⟩
 have rv3:=(rv.step s2).step s3
 cases d with
 | tup ds=>
  obtain ⟨a,vs,e,k1,k2⟩:=zck rv3
  by_cases hw:HT.sIx vs.length 0 l=0/\HT.sIx vs.length vs.length u=vs.length
  ·refine .inl ⟨a,vs,e,k1,hw,?_⟩
   have ec:zh8 ds l u=ds:=by
    unfold zh8
    rw [k2.length,hw.1,hw.2, <-k2.length]
    simp
   refine Fin.out hr3 q3 _ ?_
   rw [ec, <-e]
   exact rv3
  ·refine .inr (.inl ⟨a,vs,e,k1,hw,fun p hp=>zp6 hr3 ?_ q3 hp⟩)
   unfold zh8 zlS
   rw [k2.length]
   exact zal.take _ (zal.drop _ k2)
 | lst ds=>
  obtain ⟨a,vs,e,k1,k2⟩:=zc5 rv3
  refine .inr (.inr ⟨a,vs,e,k1,fun p hp=>znH hr3 ?_ q3 hp⟩)
  unfold zh8 zlS
  rw [k2.length]
  exact zal.take _ (zal.drop _ k2)
 | _=>exact qa0 q3
noncomputable def zsb:D->M D
 | .tup ds=>pure (.tup ds.reverse)
 | _=>M.bad
noncomputable def zik (x y:D):M D:=match x,y with
 | .int i,.int j=>if (zbN i || zbN j)=true then pure (.int (i*j)) else M.bad
 | .tup xs,.int k=>if xs≠[]/\2<=k/\k<1000/\xs.length*k.toNat<=sizeLine then pure (.tup (List.replicate k.toNat xs).flatten) else M.bad
 | _,_=>M.bad
theorem zal.rep {K:W.Frag} {ι:Io} {H:Hp} {ds:List D} {vs:List V} (h:zal K ι H ds vs): ∀ n,zal K ι H (List.replicate n ds).flatten (List.replicate n vs).flatten
 | 0=>zal.nil
 | n+1=>by
  rw [List.replicate_succ,List.replicate_succ,List.flatten_cons,List.flatten_cons]
  exact zal.append h (zal.rep h n)
theorem zcI:OpR X (binaryOp .Mult) (zde X.K E zik):=by
 refine OpR.imp (zoJ.or znq) fun x y H Q ⟨ι,h,d1,d2,r1,r2,hr,q⟩=> ?_
 unfold zik at q
 split at q
 ·simp only [Rel] at r1 r2
  obtain ⟨c,q⟩:=Fin.guard q
  refine .inl ⟨_,_,r1,r2,?_,Fin.out hr q _ (by simp [Rel])⟩
  rcases (Bool.or_eq_true _ _).mp c with z | z
  ·exact .inl (zd2 z)
  ·exact .inr (zd2 z)
 ·simp only [Rel] at r2
  obtain ⟨a,vs,e,k1,k2⟩:=zck r1
  obtain ⟨⟨c1,c2,c3,c4⟩,q⟩:=Fin.guard q
  refine .inr ⟨a,_,vs,e,r2,k1,fun z=>c1 ?_,c2,c3,by rw [<- k2.length];exact c4,fun p hp=>zp6 hr (k2.rep _) q hp⟩
  subst z
  exact List.eq_nil_of_length_eq_zero k2.length
 ·exact qa0 q
mutual
noncomputable def pdH (h:Hh):D->Option PyData
 | .non=>some .none
 | .bl b=>some (.bool b)
 | .int i=>some (.int i)
 | .str x=>some (.str x)
 | .tup xs=>(zeX h xs).map .tuple
 | .lst xs=>(zeX h xs).map .list
 | .cel n=>match h[n]? with
  | some (.lst ds)=>(pdL ds).map .list
  | _=>none
 | _=>none
noncomputable def zeX (h:Hh):List D->Option (List PyData)
 | []=>some []
 | x::xs=>match pdH h x,zeX h xs with
  | some a,some r=>some (a::r)
  | _,_=>none
end
mutual
theorem zge {pins:List (Addr×Obj)} {σ:L2.St} {H:Hp} {s:Shared} {ι:Io} {h:Hh} (I:Inv X pins σ H s) (hr:zaN X.K ι H h): ∀ {d:D} {v:V} {u:Value} {p:PyData},Rel X.K ι H d v->zbg v u->pdH h d=some p-> ∃ as,Reads s.heap u p as
 | .non,v,u,p,r,ru,e=>by simp only [Rel] at r;subst r;cases ru;simp only [pdH] at e;cases e;exact ⟨_,.none⟩
 | .bl b,v,u,p,r,ru,e=>by simp only [Rel] at r;subst r;cases ru;simp only [pdH] at e;cases e;exact ⟨_,.bool _⟩
 | .int i,v,u,p,r,ru,e=>by simp only [Rel] at r;subst r;obtain ⟨t,rfl⟩:=ru;simp only [pdH] at e;cases e;exact ⟨_,.int _ _⟩
 | .str i,v,u,p,r,ru,e=>by simp only [Rel] at r;subst r;obtain ⟨t,rfl⟩:=ru;simp only [pdH] at e;cases e;exact ⟨_,.str _ _⟩
 | .tup ds,v,u,p,r,ru,e=>by
  obtain ⟨a,vs,rfl,h1,h2⟩:=zck r
  cases ru
  obtain ⟨its,rv,pl,_⟩:=I.tuple h1
  obtain ⟨o,ho,hc,n,hd⟩:=pl
  simp only [pdH] at e
  cases z:zeX h ds with
  | none=>rw [z] at e;cases e
  | some ps=>
   rw [z] at e;cases e
   obtain ⟨as,q⟩:=zgo I hr h2 rv z
   exact ⟨_,.tuple ho hc hd (by simpa using q)⟩
 | .lst ds,v,u,p,r,ru,e=>by
  obtain ⟨a,vs,rfl,h1,h2⟩:=zc5 r
  cases ru
  obtain ⟨its,rv,pl,_⟩:=I.list h1
  obtain ⟨o,ho,hc,n,hd⟩:=pl.isList
  simp only [pdH] at e
  cases z:zeX h ds with
  | none=>rw [z] at e;cases e
  | some ps=>
   rw [z] at e;cases e
   obtain ⟨as,q⟩:=zgo I hr h2 rv z
   exact ⟨_,.list ho hc hd (by simpa using q)⟩
 | .cel m,v,u,p,r,ru,e=>by
  simp only [pdH] at e
  cases z0:h[m]? with
  | none=>rw [z0] at e;cases e
  | some c=>
   rw [z0] at e
   cases c with
   | dead=>cases e
   | dic _=>cases e
   | lst ds=>
    obtain ⟨a,vs,rfl,hn,hH,rl⟩:=hr.read r z0
    cases ru
    obtain ⟨its,rv,pl,_⟩:=I.list (SqL.of hH)
    obtain ⟨o,ho,hc,n,hd⟩:=pl.isList
    cases z:pdL ds with
    | none=>simp only [z] at e;cases e
    | some ps=>
     simp only [z] at e;cases e
     obtain ⟨as,q⟩:=zgi I rl rv z
     exact ⟨_,.list ho hc hd (by simpa using q)⟩
 | .scr ds,_,_,_,_,_,e=>by simp only [pdH] at e;cases e
 | .set xs,_,_,_,_,_,e=>by simp only [pdH] at e;cases e
 | .dct,_,_,_,_,_,e=>by simp only [pdH] at e;cases e
 | .fn _,_,_,_,_,_,e=>by simp only [pdH] at e;cases e
 | .exn _,_,_,_,_,_,e=>by simp only [pdH] at e;cases e
theorem zgo {pins:List (Addr×Obj)} {σ:L2.St} {H:Hp} {s:Shared} {ι:Io} {h:Hh} (I:Inv X pins σ H s) (hr:zaN X.K ι H h): ∀ {ds:List D} {vs:List V} {us:List Value} {ps:List PyData},zal X.K ι H ds vs->zaI vs us->zeX h ds=some ps-> ∃ as,ReadsAll s.heap us ps as
 | [],vs,us,ps,r,ru,e=>by simp only [zal] at r;subst r;cases ru;simp only [zeX] at e;cases e;exact ⟨_,.nil⟩
 | d::ds,vs,us,ps,r,ru,e=>by
  simp only [zal] at r
  obtain ⟨v,vr,rfl,r1,r2⟩:=r
  cases ru with
  | cons ru1 ru2=>
   simp only [zeX] at e
   cases z:pdH h d with
   | none=>rw [z] at e;cases e
   | some a=>
    cases z2:zeX h ds with
    | none=>rw [z,z2] at e;cases e
    | some b=>
     rw [z,z2] at e
     cases e
     obtain ⟨as,q1⟩:=zge I hr r1 ru1 z
     obtain ⟨bs,q2⟩:=zgo I hr r2 ru2 z2
     exact ⟨_,.cons q1 q2⟩
end
noncomputable def zlU (x y:D):M D:=fun h=>match pdH h x,pdH h y with
 | some a,some b=>if zeC a b=true then .ok (.bl (PyData.eqv a b)) h else .bad
 | _,_=> .bad
theorem zlQ (hu:X.A.units+60<cLine):OpR X (compareOp .Eq) (zde X.K E zlU):=by
 intro pins s σ H x y v u Q I rx ry ⟨ι,h,d1,d2,r1,r2,hr,q⟩
 unfold zlU at q
 cases e1:pdH h d1 with
 | none=>rw [e1] at q;exact qa0 q
 | some a=>
  cases e2:pdH h d2 with
  | none=>rw [e1,e2] at q;exact qa0 q
  | some b=>
   rw [e1,e2] at q
   dsimp only at q
   by_cases c:zeC a b=true
   ·rw [qa4 c] at q
    obtain ⟨c1,c2,c3⟩:=zdK c
    obtain ⟨as,ra⟩:=zge I hr r1 rx e1
    obtain ⟨bs,rb⟩:=zge I hr r2 ry e2
    exact SeqAt.compareEq_reads ra rb c1 c2 (by omega) ⟨.bl _,H,I,rfl,q ι H (zaW.refl _ _) hr (.bl _) (by simp [Rel])⟩
   ·rw [qa5 c] at q
    exact qa0 q
end
noncomputable abbrev FE:=Sd->M D
noncomputable abbrev FT:=Sd->M Bool
noncomputable abbrev FA:=Sd->M (List D)
noncomputable abbrev FS:=Sd->M Out
noncomputable def cOp (F:D->D->M D) (a b:FE):FE:=fun sd=>do let x<-a sd;let y<-b sd;F x y
noncomputable def cUn (F:D->M D) (a:FE):FE:=fun sd=>do let x<-a sd;F x
noncomputable def zaX (F:List D->M D) (a:FA):FE:=fun sd=>do let ds<-a sd;F ds
noncomputable def zfd (F:D->D->M D) (a b:FE):FT:=fun sd=>do let z<-(do let x<-a sd;let y<-b sd;F x y);zcB z
noncomputable def zmP (a:FE):FT:=fun sd=>do let x<-a sd;zcB x
noncomputable def zlJ (t:FT):FT:=fun sd=>do let c<-t sd;pure (!c)
noncomputable def zoH (t u:FT):FT:=fun sd=>do let c<-t sd;if c=true then u sd else pure false
noncomputable def tOr (t u:FT):FT:=fun sd=>do let c<-t sd;if c=true then pure true else u sd
noncomputable def zro (a b:FE):FE:=fun sd=>do let c<-(do let x<-a sd;zcB x);if c=true then b sd else pure (.bl false)
noncomputable def cOr (a b:FE):FE:=fun sd=>do let c<-(do let x<-a sd;zcB x);if c=true then pure (.bl true) else b sd
noncomputable def zqp (a:FE):FE:=fun sd=>do let c<-(do let x<-a sd;zcB x);pure (.bl (!c))
noncomputable def cIf (t:FT) (a b:FE):FE:=fun sd=>do let c<-t sd;if c=true then a sd else b sd
noncomputable def cK (d:D):FE:=fun _=>pure d
noncomputable def zav:FA:=fun _=>pure []
noncomputable def zac (a:FE) (r:FA):FA:=fun sd=>do let x<-a sd;let r<-r sd;pure (x::r)
noncomputable def zgq (fs:FA):FE:=fun sd=>do let ds<-fs sd;fits ds.length;pure (.tup ds)
noncomputable def zhi (fs:FA):FE:=fun sd=>do let ds<-fs sd;fits ds.length;pure (.lst ds)
noncomputable def zhT (fs:FA):FE:=fun sd=>do let ds<-fs sd;fits ds.length;za7 ds
noncomputable def zke:FS:=fun sd=>pure (.nx sd)
noncomputable def zaC (g g':FS):FS:=fun sd=>do let o<-g sd;andThen o g'
noncomputable def zcA (i:Nat) (f:FE):FS:=fun sd=>do let d<-f sd;pure (.nx (sd.set i (some d)))
noncomputable def zdx (f:FE):FS:=fun sd=>do let d<-f sd;pure (.rt d)
noncomputable def sIf (t:FT) (g g':FS):FS:=fun sd=>do let c<-t sd;if c=true then g sd else g' sd
noncomputable def zlx (fi:FA) (g:D->Sd->M Sd) (gb:FS):FS:=fun sd=>do let ds<-fi sd;za3 (fun x sd=>do let sd1<-g x sd;gb sd1) ds sd
noncomputable def zoa (f:FE) (g:D->Sd->M Sd):FS:=fun sd=>do let d<-f sd;let sd'<-g d sd;pure (.nx sd')
noncomputable def zjl (f:FE):FS:=fun sd=>do let _<-f sd;pure (.nx sd)
noncomputable def iSq (f:FE):FA:=fun sd=>do let d<-f sd;zd7 d
noncomputable def zgS (fs:FA):FA:=fun sd=>do let ds<-fs sd;ziE ds
noncomputable def zku (fo fi:FE):D->Sd->M Sd:=fun d sd=>do let x<-fo sd;let y<-fi sd;zj3 x y d;pure sd
section
variable {X:Cx} {E:XE} {a b e c:Expr} {es:List Expr} {pos p p1 p2:Pos} {fa fb f:FE} {fs:FA} {x:Str}
theorem zab (i:Nat) (hN:X.N[i]? = some x:=by rfl) (hv:Vis X.env.scope x:=by first | exact Or.inl rfl | exact Or.inr (Or.inl rfl) | exact Or.inr (Or.inr rfl)) (hd:(x==("__debug__":Str))=false:=by decide) (hcd:(x==("__classdict__":Str))=false:=by decide):SE X E (.Name x pos) (zai i):=zpb i hN hv hd hcd
theorem zam {i:Int} {j:Nat}:SE X E (.Constant (.int i) j pos) (cK (.int i)):=zp2
theorem zq8 {i:Bool} {j:Nat}:SE X E (.Constant (.bool i) j pos) (cK (.bl i)):=zq3
theorem zdd {i:Str} {j:Nat}:SE X E (.Constant (.str i) j pos) (cK (.str i)):=zoY
theorem zbH {op:Operator} {F:D->D->M D} (ho:OpR X (binaryOp op) (zde X.K E F)) (ha:SE X E a fa) (hb:SE X E b fb):SE X E (.BinOp a op b pos) (cOp F fa fb):=zrR ho ha hb
theorem zqy {op:CmpOp} {F:D->D->M D} (ho:OpR X (compareOp op) (zde X.K E F)) (ha:SE X E a fa) (hb:SE X E b fb) (hm:behindInMarks op b=false:=by rfl):SE X E (.Compare a [op] [b] pos) (cOp F fa fb):=zpH ho ha hb hm
theorem zbm {op:CmpOp} {F:D->D->M D} (ho:OpR X (compareOp op) (zde X.K E F)) (ha:SE X E a fa) (hb:SE X E b fb) (hm:behindInMarks op b=false:=by rfl):ST X E (.Compare a [op] [b] pos) (zfd F fa fb):=zoS ho ha hb hm
theorem zcZ (ha:SE X E a fa) (hb:SE X E b fb) (hs:zgV b:=by intro _ _;rfl):SE X E (.Subscript a b pos) (cOp dIx fa fb):=zrq zr8 ha hb hs
theorem zoR (ha:SE X E a fa):SE X E (.UnaryOp .Not a pos) (zqp fa):=zoy ha
theorem zqI {op:BoolOp} (h:SE X E a fa):SE X E (.BoolOp op [a] pos) fa:=zpE h
theorem zrc {rest:List Expr} (ha:SE X E a fa) (hb:SE X E (.BoolOp .And (b::rest) pos) fb):SE X E (.BoolOp .And (a::b::rest) pos) (zro fa fb):=zoL ha hb
theorem zfV (h:SE X E e f) (he: ∀ whole,isTrue e X.env whole=(do let v<-whole;standAt e.pos;holding [v] (truthy v)):=by intro _;rfl):ST X E e (zmP f):=zoC h he
theorem zhm {t:FT} (ha:ST X E a t):ST X E (.UnaryOp .Not a pos) (zlJ t):=zpu ha
theorem znQ {t:FT} (ha:ST X E a t):PW X (.BoolOp .And [a] pos) (zeg X.K E t):=zmJ ha
theorem zlX {t:FT} (ha:ST X E a t):PW X (.BoolOp .Or [a] pos) (zeg X.K E t):=zp7 ha
theorem zpx {rest:List Expr} {t u:FT} (ha:ST X E a t) (hb:PW X (.BoolOp .And (b::rest) pos) (zeg X.K E u)):PW X (.BoolOp .And (a::b::rest) pos) (zeg X.K E (zoH t u)):=zoj ha hb
theorem znp {rest:List Expr} {t u:FT} (ha:ST X E a t) (hb:PW X (.BoolOp .Or (b::rest) pos) (zeg X.K E u)):PW X (.BoolOp .Or (a::b::rest) pos) (zeg X.K E (tOr t u)):=zqL ha hb
theorem zgw {op:BoolOp} {vs:List Expr} {t:FT} (h:PW X (.BoolOp op vs pos) (zeg X.K E t)):ST X E (.BoolOp op vs pos) t:=zne h
theorem zj8 {env:Env} (h: ∀ v p,e≠ .Starred v p):starEach (e::es) env=(false,eval e env)::starEach es env:=by
 cases e<;>first | rfl | exact absurd rfl (h _ _)
theorem zad:SA X E [] zav:=zoD
theorem zaa (ha:SE X E e fa) (hr:SA X E es fs) (hs:starEach (e::es) X.env=(false,eval e X.env)::starEach es X.env:=by exact zj8 (fun _ _ z=>nomatch z)):SA X E (e::es) (zac fa fs):=znL ha hr hs
theorem zdg {k} (h:SA X E es fs):SE X E (.Tuple es k pos) (zgq fs):=zp9 h
theorem zdH (h:SA X E es fs):SE X E (.List es pos) (zhi fs):=zqc h
theorem zg0 (h:SA X E es fs):SE X E (.List es pos) (zhT fs):=znK h
theorem zaT {id:String} {F:List D->M D} (hc:zax X (.builtin id) (zgO X.K E F)) (hv:bootBuiltins x=some (.builtin id)) (hm:X.mg x=none) (ha:SA X E (e::es) fs) (hg:Gl X x:=by rfl) (hn:x≠"__name__":=by decide) (hdb:(x==("__debug__":Str))=false:=by decide)
  (he:starEach (e::es) X.env=(false,eval e X.env)::starEach es X.env:=by rfl) (hpl:(backTo pos (starEach es X.env)).any (·.1)=false:=by rfl):SE X E (.Call (.Name x p) (e::es) [] pos) (zaX F fs):=zks hc hg hm hv ha hn hdb he hpl
theorem zbq {T:String} {F:List D->M D} (hc:zax X (.type T) (zgO X.K E F)) (hv:bootBuiltins x=some (.type T)) (hm:X.mg x=none) (ha:SA X E (e::es) fs) (hg:Gl X x:=by rfl) (hn:x≠"__name__":=by decide) (hdb:(x==("__debug__":Str))=false:=by decide)
  (he:starEach (e::es) X.env=(false,eval e X.env)::starEach es X.env:=by rfl) (hpl:(backTo pos (starEach es X.env)).any (·.1)=false:=by rfl):SE X E (.Call (.Name x p) (e::es) [] pos) (zaX F fs):=ziO hc hg hm hv ha hn hdb he hpl
theorem zmp {T:String} (hk:zhW T) (hvT:bootBuiltins x=some (.type T)) (hm:X.mg "isinstance"=none) (hmT:X.mg x=none) (ha:SE X E a fa) (hg:Gl X "isinstance":=by rfl) (hgT:Gl X x:=by rfl)
  (hn:x≠"__name__":=by decide) (hd:(x==("__debug__":Str))=false:=by decide)
  (h1:starEach [a,.Name x p2] X.env=(false,eval a X.env)::starEach [.Name x p2] X.env:=by rfl) (h2:starEach [.Name x p2] X.env=[(false,eval (.Name x p2) X.env)]:=by rfl)
  (hpl:(backTo pos (starEach [.Name x p2] X.env)).any (·.1)=false:=by rfl):SE X E (.Call (.Name "isinstance" p1) [a,.Name x p2] [] pos) (cUn (zkb T) fa):=zor hk hg hm hgT hmT hvT ha hn hd h1 h2 hpl
theorem zfq {pos2:Pos} (hc:X.calm=true) (hm1:X.mg "sorted"=none) (hm2:X.mg "set"=none) (he:SE X E e f) (hg1:Gl X "sorted":=by rfl) (hg2:Gl X "set":=by rfl)
  (h1:starEach [.Call (.Name "set" p2) [e] [] pos2] X.env=[(false,eval (.Call (.Name "set" p2) [e] [] pos2) X.env)]:=by rfl) (h2:starEach [e] X.env=[(false,eval e X.env)]:=by rfl):
  SE X E (.Call (.Name "sorted" p1) [.Call (.Name "set" p2) [e] [] pos2] [] pos) (cUn zbo f):=zhX hc hg1 hm1 hg2 hm2 he h1 h2
theorem zaK {k:Nat} {g:Addr} {fd:FuncData} {ps:List Str} {n:Nat} {F:List D->M D} (G:zbZ X.prog X.w X.K X.mg X.base CX0 k g fd ps (zcx X.K n F)) (hr:zcD k X.A) (hm:X.mg x=some (.ref g)) (hk:W.keepIn X.K (.ref g)=true) (hb:zaQ X.K fd ps [])
  (ha:SA X E0x (e::es) fs) (hg:Gl X x:=by rfl) (hdb:(x==("__debug__":Str))=false:=by decide) (he:starEach (e::es) X.env=(false,eval e X.env)::starEach es X.env:=by rfl) (hpl:(backTo pos (starEach es X.env)).any (·.1)=false:=by rfl):
  SE X E0x (.Call (.Name x p) (e::es) [] pos) (zaX (zaF n F) fs):=zmR G hr hg hm hk hb ha hdb he hpl
theorem zdD:SSs X E [] zke:=zpF
theorem zas {st:Stmt} {g:FS} (h1:SS X E st g):SSs X E [st] g:=zou h1
theorem zak {st:Stmt} {rest:List Stmt} {g g':FS} (h1:SS X E st g) (h2:SSs X E rest g'):SSs X E (st::rest) (zaC g g'):=zn8 h1 h2
theorem zbn (he:SE X E e f):SS X E (.Return (some e) pos) (zdx f):=zrp he
theorem zlF {ys ns:List Stmt} {t:FT} {g g':FS} (hc:ST X E c t) (ha:SSs X E ys g) (hb:SSs X E ns g'):SS X E (.If c ys ns pos) (sIf t g g'):=zsH hc ha hb
theorem zjF (he:SE X E e f) (hs:swapsWith e none pos.line X.env=pure false:=by rfl):SS X E (.Expr e pos) (zjl f):=zpA he hs
theorem zbb (i:Nat) (hN:X.N.Nodup) (he:SE X E e f) (hi:X.N[i]? = some x:=by rfl) (hx:Loc X.env.scope x:=by first | exact Or.inl rfl | exact Or.inr rfl) (hf:X.fn x=true\/X.env.scope.names.lookup x=some .local:=by first | exact Or.inl rfl | exact Or.inr rfl)
  (hs:swapsWith e (some (.Name x p)) pos.line X.env=pure false:=by rfl):SS X E (.Assign [.Name x p] e pos) (zcA i f):=zrL i hN hi hx hf he hs
theorem zkR {tg:Expr} {g:D->Sd->M Sd} (he:SE X E e f) (hg:SG X E tg g) (hs:swapsWithSole [tg] e pos.line X.env=pure false:=by rfl) (hw:swappedStores [tg] e X.env=pure none:=by rfl)
  (h1:(assignEach [tg] X.env).map (·.2)=[assign tg X.env]:=by rfl):SS X E (.Assign [tg] e pos) (zoa f g):=zra he hg hs hw h1
theorem zan (i:Nat) (hN:X.N.Nodup) (hi:X.N[i]? = some x:=by rfl) (hx:Loc X.env.scope x:=by first | exact Or.inl rfl | exact Or.inr rfl) (hf:X.fn x=true\/X.env.scope.names.lookup x=some .local:=by first | exact Or.inl rfl | exact Or.inr rfl):SG X E (.Name x pos) (zaU i):=zmX i hN hi hx hf
theorem zdh:SGs X E [] zc2:=znf
theorem zaZ {g:D->Sd->M Sd} {gs:List D->Sd->M Sd} (h1:SG X E e g) (h2:SGs X E es gs) (hs:(assignEach (e::es) X.env).map (·.2)=assign e X.env::(assignEach es X.env).map (·.2):=by rfl):SGs X E (e::es) (zaP g gs):=zkF h1 h2 hs
theorem zeI {k n:Nat} {gs:List D->Sd->M Sd} (hc:X.calm=true) (h:SGs X E es gs) (hn:(assignEach es X.env).length=n:=by rfl) (hst:(assignEach es X.env).findIdx? (·.1)=none:=by rfl):SG X E (.Tuple es k pos) (zcV n gs):=zpi hc h hn hst
theorem zmb (ho:SE X E a fa) (hi:SE X E b fb) (ha: ∀ v,assign (.Subscript a b pos) X.env v=(do
      let ov<-holding [v] (eval a X.env)
      let iv<-holding [v,ov] (eval b X.env)
      standAt pos
      holding [v,ov,iv] (setItem ov iv v)
      release [v,ov,iv] []):=by intro _;rfl):SG X E (.Subscript a b pos) (zku fa fb):=zpj fun hs=>zpR ho hi hs ha
theorem zc9 {tg:Expr} (he:SE X E e f):SI X E tg e (iSq f):=zo3 he
theorem zes {tg:Expr} (hm:X.mg "range"=none) (ha:SA X E [a] fs) (hg:Gl X "range":=by rfl) (hs:starEach [a] X.env=[(false,eval a X.env)]:=by rfl):SI X E tg (.Call (.Name "range" p) [a] [] pos) (zgS fs):=znR hg hm ha hs
theorem zgT {tg iter:Expr} {body:List Stmt} {fi:FA} {g:D->Sd->M Sd} {gb:FS} (hc:X.calm=true) (hp:PassesOwn (model X.prog X.w) X.A X.env X.xe) (hi:SI X E tg iter fi) (hg:SG X E tg g) (hb:SSs X E body gb)
  (hs: ∀ x,foldedSetIterable iter X.env x=pure x:=by intro _;rfl):SS X E (.For tg iter body [] pos) (zlx fi g gb):=zrs hc hp hi hg hb hs
theorem zcX:SCs X E [] (fun _=>pure true):=zpo
theorem zcY {t:FT} (h:ST X E c t):SCs X E [c] t:=zov h
theorem zcg {scope:Scope} {N:List Str} {src:List (Option Nat)} {tg iter elt:Expr} {ifs:List Expr} {fi:FA} {g:D->Sd->M Sd} {tc:FT} {te:FE} (hc:X.calm=true) (B:BOk X scope N src) (hk:zat g src) (hi:SI X E tg iter fi)
  (hg: ∀ s H fp,SG (cxB X scope N s H fp) E tg g) (ht: ∀ s H fp,SCs (cxB X scope N s H fp) E ifs tc) (he: ∀ s H fp,SE (cxB X scope N s H fp) E elt te)
  (hs: ∀ x,foldedSetIterable iter X.env x=pure x:=by intro _;rfl):SE X E (.ListComp elt [⟨tg,iter,ifs,0⟩] scope pos) (zaG fi g tc te src):=zix B hk hi hg ht he hs
theorem zel {scope:Scope} {N:List Str} {src:List (Option Nat)} {tg iter elt:Expr} {ifs:List Expr} {fi:FA} {g:D->Sd->M Sd} {tc:FT} {te:FE} (i:Nat) {y:Str} {py spos:Pos} (hc:X.calm=true) (hN:X.N.Nodup) (B:BOk X scope N src) (hk:zat g src) (hi:SI X E tg iter fi)
  (hg: ∀ s H fp,SG (cxB X scope N s H fp) E tg g) (ht: ∀ s H fp,SCs (cxB X scope N s H fp) E ifs tc) (he: ∀ s H fp,SE (cxB X scope N s H fp) E elt te)
  (hy:X.N[i]? = some y:=by rfl) (hx:Loc X.env.scope y:=by first | exact Or.inl rfl | exact Or.inr rfl) (hf:X.fn y=true\/X.env.scope.names.lookup y=some .local:=by first | exact Or.inl rfl | exact Or.inr rfl) (hsw:swapsWith (.ListComp elt [⟨tg,iter,ifs,0⟩] scope pos) (some (.Name y py)) spos.line X.env=pure true:=by rfl)
  (hs: ∀ x,foldedSetIterable iter X.env x=pure x:=by intro _;rfl):SS X E (.Assign [.Name y py] (.ListComp elt [⟨tg,iter,ifs,0⟩] scope pos) spos) (zcA i (zaG fi g tc te src)):=zjR i B hk hi hg ht he hN hy hx hf hsw hs
end
theorem zaN.empty {K:W.Frag} {H:Hp}:zaN K ⟨[],[]⟩ H []:=⟨rfl,fun m n a h=>by simp at h,fun n a c h=>by simp at h,fun n h=>by simp at h,fun a h=>by cases h⟩
theorem zry {K:W.Frag} {F:List D->M D} {H:Hp} {a:Addr} {ns:List Int} (hS:SqL K H a (ns.map V.int)) (hm: ∃ h',F [.scr (ns.map D.int)] []= .ok (.bl true) h'):zcx K 1 F [.ref a] H (fun v _=>v= .bl true) fun _ _ _=>False:=by
 obtain ⟨h',e⟩:=hm
 refine ⟨rfl,⟨[],[]⟩,[],[.scr (ns.map D.int)],zal.cons ?_ zal.nil,zaN.empty,?_⟩
 ·simp only [Rel]
  refine ⟨a,ns.map V.int,rfl,?_,zb2.mpr rfl⟩
  rcases hS with h | h
  ·exact .inl ⟨h,fun z=>by rcases z with z | z<;>cases z⟩
  ·exact .inr (.inr h)
 ·rw [e]
  intro ι1 H1 s hr v rv
  simpa [Rel] using rv
section
variable {sd:Sd} {a b:FE} {fs:FA} {t u:FT} {g g':FS} {F:D->D->M D}
@[simp] theorem zbO:cOp F a b sd=(do let x<-a sd;let y<-b sd;F x y):=rfl
@[simp] theorem zmw {F:D->M D}:cUn F a sd=(do let x<-a sd;F x):=rfl
@[simp] theorem za8 {F:List D->M D}:zaX F fs sd=(do let ds<-fs sd;F ds):=rfl
@[simp] theorem zd5:zfd F a b sd=(do let z<-(do let x<-a sd;let y<-b sd;F x y);zcB z):=rfl
@[simp] theorem zoU:zmP a sd=(do let x<-a sd;zcB x):=rfl
@[simp] theorem zqi:zlJ t sd=(do let c<-t sd;pure (!c)):=rfl
@[simp] theorem zot:zoH t u sd=(do let c<-t sd;if c=true then u sd else pure false):=rfl
@[simp] theorem zrg:tOr t u sd=(do let c<-t sd;if c=true then pure true else u sd):=rfl
@[simp] theorem zlK:zro a b sd=(do let c<-(do let x<-a sd;zcB x);if c=true then b sd else pure (.bl false)):=rfl
@[simp] theorem zqB:cOr a b sd=(do let c<-(do let x<-a sd;zcB x);if c=true then pure (.bl true) else b sd):=rfl
@[simp] theorem zmd:zqp a sd=(do let c<-(do let x<-a sd;zcB x);pure (.bl (!c))):=rfl
@[simp] theorem zqK:cIf t a b sd=(do let c<-t sd;if c=true then a sd else b sd):=rfl
@[simp] theorem zeu {d:D}:cK d sd=pure d:=rfl
@[simp] theorem zaJ:zav sd=pure []:=rfl
@[simp] theorem zaz:zac a fs sd=(do let x<-a sd;let r<-fs sd;pure (x::r)):=rfl
@[simp] theorem zeF:zgq fs sd=(do let ds<-fs sd;fits ds.length;pure (.tup ds)):=rfl
@[simp] theorem zfF:zhi fs sd=(do let ds<-fs sd;fits ds.length;pure (.lst ds)):=rfl
@[simp] theorem zeT:zhT fs sd=(do let ds<-fs sd;fits ds.length;za7 ds):=rfl
@[simp] theorem zfM:zke sd=pure (.nx sd):=rfl
@[simp] theorem zaV:zaC g g' sd=(do let o<-g sd;andThen o g'):=rfl
@[simp] theorem zch {i:Nat}:zcA i a sd=(do let d<-a sd;pure (.nx (sd.set i (some d)))):=rfl
@[simp] theorem zco:zdx a sd=(do let d<-a sd;pure (.rt d)):=rfl
@[simp] theorem zj9:sIf t g g' sd=(do let c<-t sd;if c=true then g sd else g' sd):=rfl
@[simp] theorem zht {fi:FA} {gt:D->Sd->M Sd}:zlx fi gt g sd=(do let ds<-fi sd;za3 (fun x sd=>do let sd1<-gt x sd;g sd1) ds sd):=rfl
@[simp] theorem zhl {gt:D->Sd->M Sd}:zoa a gt sd=(do let d<-a sd;let sd'<-gt d sd;pure (.nx sd')):=rfl
@[simp] theorem zn7:zjl a sd=(do let _<-a sd;pure (.nx sd)):=rfl
@[simp] theorem zoZ:iSq a sd=(do let d<-a sd;zd7 d):=rfl
@[simp] theorem zfP:zgS fs sd=(do let ds<-fs sd;ziE ds):=rfl
@[simp] theorem zi1 {d:D}:zku a b d sd=(do let x<-a sd;let y<-b sd;zj3 x y d;pure sd):=rfl
@[simp] theorem zcE {i:Nat} {d:D}:zaU i d sd=pure (sd.set i (some d)):=rfl
@[simp] theorem zfb:andThen (.nx sd) g=g sd:=rfl
@[simp] theorem zqo {d:D}:andThen (.rt d) g=pure (.rt d):=rfl
@[simp] theorem zsM:andThen (.bk sd) g=pure (.bk sd):=rfl
@[simp] theorem zsK:andThen (.ct sd) g=pure (.ct sd):=rfl
@[simp] theorem zq6:zen (.nx sd)=pure .non:=rfl
@[simp] theorem zeS {d:D}:zen (.rt d)=pure d:=rfl
@[simp] theorem zdA {c:Bool}:zcB (.bl c)=pure c:=rfl
@[simp] theorem zrf {lo hi:Sd->M (Option Int)}:cSl a lo hi sd=(do let d<-a sd;let l<-lo sd;let u<-hi sd;dSl d l u):=rfl
@[simp] theorem znT:zlp sd=pure none:=rfl
@[simp] theorem zm9:zlr a sd=(do let d<-a sd;zmZ d):=rfl
@[simp] theorem zph {i:Int}:zmZ (.int i)=pure (some i):=rfl
@[simp] theorem zqC {ds:List D} {lo hi:Option Int}:dSl (.tup ds) lo hi=pure (.tup (zh8 ds lo hi)):=rfl
@[simp] theorem zrK {ds:List D}:zsb (.tup ds)=pure (.tup ds.reverse):=rfl
@[simp] theorem zq0 {i:Int}:zsc (.int i)=pure (.int (-i)):=rfl
@[simp] theorem zcF {i j:Int}:zdu (.int i) (.int j)=pure (.int (i+j)):=rfl
@[simp] theorem zl9 {xs ys:List D}:zdu (.tup xs) (.tup ys)=(do fits (xs.length+ys.length);pure (.tup (xs++ys))):=rfl
@[simp] theorem zlW {xs ys:List D}:zdu (.lst xs) (.lst ys)=(do fits (xs.length+ys.length);pure (.lst (xs++ys))):=rfl
@[simp] theorem znG {i j:Int}:zox (.int i) (.int j)=pure (.int (i - j)):=rfl
@[simp] theorem zrA {i j:Int}:zrn (.int i) (.int j)=pure (.int (Builtin.bitAnd i j)):=rfl
@[simp] theorem zrX {i j:Int}:dLt (.int i) (.int j)=pure (.bl (decide (i<j))):=rfl
@[simp] theorem zsJ {i j:Int}:dLe (.int i) (.int j)=pure (.bl (decide (i<=j))):=rfl
@[simp] theorem zr9 {i j:Int}:dGt (.int i) (.int j)=pure (.bl (decide (j<i))):=rfl
@[simp] theorem zsL {i j:Int}:dGe (.int i) (.int j)=pure (.bl (decide (j<=i))):=rfl
@[simp] theorem zrb {i j:Bool}:zpI (.bl i) (.bl j)=pure (.bl (i != j)):=rfl
@[simp] theorem zo4 {ds:List D}:zgp [.tup ds]=pure (.int ds.length):=rfl
@[simp] theorem zlO {ds:List D}:zgp [.lst ds]=pure (.int ds.length):=rfl
@[simp] theorem zmc {ds:List D}:zgp [.scr ds]=pure (.int ds.length):=rfl
@[simp] theorem zon {ds:List D}:zcm [.tup ds]=pure (.tup ds):=rfl
@[simp] theorem zfU {ds:List D}:zcm [.lst ds]=pure (.tup ds):=rfl
@[simp] theorem zqj {ds:List D}:zrS [.tup ds]=pure (.lst ds):=rfl
@[simp] theorem zqZ {ds:List D}:zd7 (.tup ds)=pure ds:=rfl
@[simp] theorem zpp {ds:List D}:zd7 (.lst ds)=pure ds:=rfl
@[simp] theorem znZ {F:List D->M D} {x:D}:zaF 1 F [x]=F [x]:=rfl
@[simp] theorem zbf {F:List D->M D} {x y:D}:zaF 2 F [x,y]=F [x,y]:=rfl
@[simp] theorem zna {F:List D->M D} {x y z:D}:zaF 3 F [x,y,z]=F [x,y,z]:=rfl
@[simp] theorem zdM {body:D->Sd->M Out}:za3 body [] sd=pure (.nx sd):=rfl
theorem zcn {body:D->Sd->M Out} {x:D} {r:List D}:za3 body (x::r) sd=(do let o<-body x sd;match o with | .nx sd'=>za3 body r sd' | .ct sd'=>za3 body r sd' | .bk sd'=>pure (.nx sd') | .rt d=>pure (.rt d)):=rfl
@[simp] theorem ziV {gs:List D->Sd->M Sd} {x y:D}:zcV 2 gs (.tup [x,y]) sd=gs [x,y] sd:=rfl
@[simp] theorem zjO:zc2 [] sd=pure sd:=rfl
@[simp] theorem zhO {gt:D->Sd->M Sd} {gs:List D->Sd->M Sd} {x:D} {r:List D}:zaP gt gs (x::r) sd=(do let sd1<-gt x sd;gs r sd1):=rfl
@[simp] theorem zmo {n:Nat} {k:Int} {d:D}:zj3 (.cel n) (.int k) d=(do let ds<-zag n;let j<-ofO (ixN ds.length k);zbc n (ds.set j d)):=rfl
@[simp] theorem zqz {ds:List D} {i:Int}:dIx (.tup ds) (.int i)=ofO (atI ds i):=rfl
@[simp] theorem zlz {ds:List D} {i:Int}:dIx (.lst ds) (.int i)=ofO (atI ds i):=rfl
@[simp] theorem zrM {ds:List D} {i:Int}:dIx (.scr ds) (.int i)=ofO (atI ds i):=rfl
@[simp] theorem zld {n:Nat} {i:Int}:dIx (.cel n) (.int i)=(do let ds<-zag n;ofO (atI ds i)):=rfl
@[simp] theorem zek {α:Type} {x:α}:ofO (some x)=pure x:=rfl
@[simp] theorem zjx {x:D} {r:List D}:atI (x::r) 0=some x:=by unfold atI ixN;simp
@[simp] theorem zo0 {x y:D} {r:List D}:atI (x::y::r) 1=some y:=by
 have:=zdR (xs:=x::y::r) (j:=1) (v:=y) rfl
 simpa using this
end
theorem zaq {n:Nat} (h:n<=1000):fits n=pure ():=by
 unfold fits
 rw [qa4 (qaS h (by decide))]
theorem zhM {i j:Int} (h:(zbN i || zbN j)=true):zik (.int i) (.int j)=pure (.int (i*j)):=by
 show (if (zbN i || zbN j)=true then _ else _)=_
 rw [qa4 h]
theorem zhh {i:Int} (h: -1000000000000000<i) (h':i<1000000000000000):zbN i=true:=by unfold zbN;simp;omega
theorem zf7 {i j:Int} (h: -1000000000000000<i) (h':i<1000000000000000):zik (.int i) (.int j)=pure (.int (i*j)):=zhM (by rw [zhh h h'];rfl)
theorem zlN {i j:Int} (h: -1000000000000000<j) (h':j<1000000000000000):zik (.int i) (.int j)=pure (.int (i*j)):=zhM (by rw [zhh h h'];simp)
theorem zdW {i j:Int} (h:0<j):znY (.int i) (.int j)=pure (.int (i % j)):=by
 show (if (decide (0<j))=true then _ else _)=_
 rw [qa4 (by simpa using h)]
theorem zhb {i j:Int} (h:0<j) (h':j<2^64):zk6 (.int i) (.int j)=pure (.int (i / j)):=by
 show (if (decide (0<j) && decide (j<2^64))=true then _ else _)=_
 rw [qa4 (by rw [qaG];exact ⟨by simpa using h,by simpa using h'⟩)]
theorem zoW {i j:Int}:dEq (.int i) (.int j)=pure (.bl (i==j)):=by
 unfold dEq zl0
 simp only [pd]
 rw [qa4 (show zeC (.int i) (.int j)=true from rfl)]
 rfl
theorem zsE {i j:Int}:dNe (.int i) (.int j)=pure (.bl (!(i==j))):=by
 unfold dNe zl0
 simp only [pd]
 rw [qa4 (show zeC (.int i) (.int j)=true from rfl)]
 rfl
def wp {α:Type} (m:M α) (h:Hh) (P:α->Hh->Prop):Prop:= ∃ a h',m h= .ok a h'/\P a h'
section
variable {α β:Type} {h:Hh} {P P':α->Hh->Prop}
theorem zaj {a:α}:wp (pure a:M α) h P↔P a h:=⟨fun ⟨b,h',e,q⟩=>by cases (show R.ok a h=R.ok b h' from e);exact q,fun q=>⟨a,h,rfl,q⟩⟩
theorem zah {m:M β} {f:β->M α}:wp (m>>=f) h P↔wp m h fun b h'=>wp (f b) h' P:=by
 constructor
 ·rintro ⟨a,h',e,q⟩
  have e:M.bind m f h= .ok a h':=e
  unfold M.bind at e
  cases z:m h with
  | ok b h1=>rw [z] at e;exact ⟨b,h1,z,a,h',e,q⟩
  | exc c h1=>rw [z] at e;cases e
  | bad=>rw [z] at e;cases e
 ·rintro ⟨b,h1,e,a,h',e2,q⟩
  refine ⟨a,h',?_,q⟩
  show M.bind m f h=_
  unfold M.bind
  rw [e]
  exact e2
theorem zjA {m:M α} (q:wp m h P) (k: ∀ a h',P a h'->P' a h'):wp m h P':=by
 obtain ⟨a,h',e,q⟩:=q
 exact ⟨a,h',e,k _ _ q⟩
theorem zcs {n:Nat} {ds:List D} {P:List D->Hh->Prop} (e:h[n]? = some (.lst ds)):wp (zag n) h P↔P ds h:=by
 unfold wp zag
 rw [e]
 exact ⟨fun ⟨b,h',e,q⟩=>by cases e;exact q,fun q=>⟨_,_,rfl,q⟩⟩
theorem zhq {n:Nat} {ds:List D} {P:Unit->Hh->Prop}:wp (zbc n ds) h P↔P () (h.set n (.lst ds)):=⟨fun ⟨b,h',e,q⟩=>by cases (show R.ok () (h.set n (.lst ds))=R.ok b h' from e);exact q,fun q=>⟨_,_,rfl,q⟩⟩
theorem zf9 {ds:List D} {P:D->Hh->Prop}:wp (za7 ds) h P↔P (.cel h.length) (h++[.lst ds]):=⟨fun ⟨b,h',e,q⟩=>by cases (show R.ok (D.cel h.length) (h++[C.lst ds])=R.ok b h' from e);exact q,fun q=>⟨_,_,rfl,q⟩⟩
end
theorem zdp {f:D->M (Option D)} {k:D->Option D}: ∀ {ds:List D},(∀ x∈ds,f x=pure (k x))->za1 f ds=pure (ds.filterMap k)
 | [],_=>rfl
 | x::r,hf=>by
  rw [za1,hf x qau,zdp fun y hy=>hf y (qan _ hy)]
  simp only [pure_bind]
  cases e:k x<;>simp [qat,e]
theorem zb0 {fi:FA} {g:D->Sd->M Sd} {tc:FT} {te:FE} {src:List (Option Nat)} {sd:Sd} {ds:List D} {k:D->Option D} (hi:fi sd=pure ds) (hl:ds.length<=1000) (hf: ∀ x∈ds,zaH g tc te (zae src sd) x=pure (k x)):zaG fi g tc te src sd=pure (.lst (ds.filterMap k)):=by
 unfold zaG
 rw [hi]
 simp only [pure_bind]
 rw [zaq hl]
 simp only [pure_bind]
 rw [zdp hf]
 simp only [pure_bind]
theorem ziq {fi:FA} {g:D->Sd->M Sd} {tc:FT} {te:FE} {src:List (Option Nat)} {sd:Sd} {ds:List D} {k:D->D} (hi:fi sd=pure ds) (hl:ds.length<=1000) (hf: ∀ x∈ds,zaH g tc te (zae src sd) x=pure (some (k x))):zaG fi g tc te src sd=pure (.lst (ds.map k)):=by
 rw [zb0 (k:=fun x=>some (k x)) hi hl hf]
 simp
theorem zhA: ∀ bs:List Bool,zlk (bs.map D.bl)=some bs
 | []=>rfl
 | b::r=>by rw [qaM,zlk,zhA r];rfl
theorem zba: ∀ bs:List Int,zbI (bs.map D.int)=some bs
 | []=>rfl
 | b::r=>by rw [qaM,zbI,zba r];rfl
theorem znm (bs:List Bool):zq1 [.lst (bs.map D.bl)]=pure (.bl (bs.all id)):=by
 show (do let bs<-ofO (zlk (bs.map D.bl));pure (.bl (bs.all id)):M D)=_
 rw [zhA]
 rfl
theorem zja {d:D} {xs:List Int} (e:zkc d=pure (xs.map D.int)) (h:(xs.foldl step_dedup []).length<64) (h2:xs.length<4000):zbo d=pure (.lst ((zdI xs).map D.int)):=by
 unfold zbo
 rw [e]
 show (do let ns<-ofO (zbI (xs.map D.int));if (ns.foldl step_dedup []).length<64/\ns.length<4000 then pure (.lst ((zdI ns).map D.int)) else M.bad:M D)=_
 rw [zba]
 show (if (xs.foldl step_dedup []).length<64/\xs.length<4000 then (pure (.lst ((zdI xs).map D.int)):M D) else M.bad)=_
 rw [qa4 ⟨h,h2⟩]
theorem zf1 {xs:List Int} (h:xs.length<64):zbo (.lst (xs.map D.int))=pure (.lst ((zdI xs).map D.int)):=zja rfl (Nat.lt_of_le_of_lt (zjo xs) h) (by omega)
theorem zib {xs:List Int} (h:xs.length<64):zdY [.tup (xs.map D.int)]=pure (.lst ((zbi xs).map D.int)):=by
 show (do let ns<-ofO (zbI (xs.map D.int));if ns.length<64 then pure (.lst ((zbi ns).map D.int)) else M.bad:M D)=_
 rw [zba]
 show (if xs.length<64 then (pure (.lst ((zbi xs).map D.int)):M D) else M.bad)=_
 rw [qa4 h]
noncomputable def kn:D->Bool
 | .non | .bl _ | .int _ | .str _ | .tup _ | .lst _ | .dct=>true
 | _=>false
noncomputable def isI:D->Bool
 | .int _=>true
 | _=>false
theorem zmu {d:D} (k:kn d=true):zkb "int" d=pure (.bl (isI d || (match d with | .bl _=>true | _=>false))):=by
 cases d<;>simp [kn] at k<;>simp [zkb,tyD,isB,isI]
theorem zpd {d:D} (k:kn d=true):zkb "bool" d=pure (.bl (match d with | .bl _=>true | _=>false)):=by
 cases d<;>simp [kn] at k<;>simp [zkb,tyD,isB,isI]
mutual
noncomputable def ziD:D->Bool
 | .non | .bl _ | .int _=>true
 | .str x=>PyData.strOk x
 | .tup ds=>decide (ds.length<64) && zgm ds
 | .lst ds=>decide (ds.length<64) && zgm ds
 | _=>false
noncomputable def zgm:List D->Bool
 | []=>true
 | d::r=>ziD d && zgm r
end
mutual
theorem zmI: ∀ {d:D},ziD d=true-> ∃ p,pd d=some p/\p.canLay0=true
 | .non,_=>⟨.none,rfl,rfl⟩
 | .bl b,_=>⟨.bool b,rfl,rfl⟩
 | .int i,_=>⟨.int i,rfl,rfl⟩
 | .str x,g=>⟨.str x,rfl,by simpa [ziD,PyData.canLay0] using g⟩
 | .tup ds,g=>by
  have g2:zgm ds=true:=by simp [ziD] at g;exact g.2
  obtain ⟨ps,e,c⟩:=ze7 g2
  exact ⟨.tuple ps,by unfold pd;rw [e];rfl,c⟩
 | .lst ds,g=>by
  have g2:zgm ds=true:=by simp [ziD] at g;exact g.2
  obtain ⟨ps,e,c⟩:=ze7 g2
  exact ⟨.list ps,by unfold pd;rw [e];rfl,c⟩
 | .cel _,g=>by simp [ziD] at g
 | .set _,g=>by simp [ziD] at g
 | .dct,g=>by simp [ziD] at g
 | .fn _,g=>by simp [ziD] at g
 | .scr _,g=>by simp [ziD] at g
 | .exn _,g=>by simp [ziD] at g
theorem ze7: ∀ {ds:List D},zgm ds=true-> ∃ ps,pdL ds=some ps/\PyData.canLayAll0 ps=true
 | [],_=>⟨[],rfl,rfl⟩
 | d::r,g=>by
  simp [zgm] at g
  obtain ⟨p,e,c⟩:=zmI g.1
  obtain ⟨ps,e2,c2⟩:=ze7 g.2
  exact ⟨p::ps,by unfold pdL;rw [e,e2],by simp [PyData.canLayAll0,c,c2]⟩
end
theorem zb7: ∀ xs:List Int,pdL (xs.map D.int)=some (xs.map PyData.int)
 | []=>rfl
 | x::r=>by rw [qaM,pdL,zb7 r];rfl
theorem zaS: ∀ xs:List Int,PyData.canLayAll0 (xs.map PyData.int)=true
 | []=>rfl
 | x::r=>by simp [PyData.canLayAll0,PyData.canLay0,zaS r]
theorem zbr: ∀ xs:List Int,PyData.depthAll (xs.map PyData.int)=0
 | []=>rfl
 | x::r=>by simp [PyData.depthAll,PyData.depth,zbr r]
theorem zhB: ∀ xs ys:List Int,PyData.eqvAll (xs.map PyData.int) (ys.map PyData.int)=(xs==ys)
 | [],[]=>rfl
 | [],_::_=>rfl
 | _::_,[]=>rfl
 | x::xs,y::ys=>by
  simp only [qaM,PyData.eqvAll,PyData.eqv,zhB xs ys]
  rfl
theorem zdL (k:Int): ∀ xs:List Int,((xs.map PyData.int).any fun y=>PyData.eqv y (.int k))=xs.any (· == k)
 | []=>rfl
 | x::r=>by simp only [qaM,List.any_cons,zdL k r];rfl
theorem zlc (k:Int) (xs:List Int):dIn (.int k) (.tup (xs.map D.int))=pure (.bl (xs.any (· == k))):=by
 show zkf false (.int k) (.tup (xs.map D.int))=_
 unfold zkf
 simp only [pd]
 rw [zb7]
 have c:ziH (.int k) (xs.map PyData.int)=true:=by
  unfold ziH
  simp [PyData.canLay0,zaS,PyData.depth,zbr]
 simp only [c,if_true,zdL]
 rfl
end L3
namespace L2
open PySem PySem.Spec PyProof.Rows LT
section
variable {X:Cx}
end
end L2
namespace L3
open PySem PySem.Spec PyProof.Rows L2 LT
section
variable {X:Cx} {E:XE} {a b c o e:Expr} {pos apos cpos:Pos} {fa fb fc fo fe:FE}
noncomputable def zdB:D->M Unit
 | .cel n=>do let _<-zag n;pure ()
 | _=>M.bad
noncomputable def zcJ (x y:D):M D:=match x with
 | .cel n=>do
  let ds<-zag n
  fits (ds.length+1)
  zbc n (ds++[y])
  pure .non
 | _=>M.bad
noncomputable def zgn (fo fe:FE):FE:=fun sd=>do
 let x<-fo sd
 zdB x
 let y<-fe sd
 zcJ x y
theorem ze9 {α:Type} {K:W.Frag} {ι:Io} {H:Hp} {h:Hh} {n:Nat} {f:List D->M α} {P:α->Io->Hp->Prop} (q:Fin K E ι H ((zag n>>=f) h) P): ∃ ds,h[n]? = some (.lst ds)/\Fin K E ι H (f ds h) P:=by
 have q':Fin K E ι H (M.bind (zag n) f h) P:=q
 unfold M.bind at q'
 cases z:zag n h with
 | bad=>rw [z] at q';exact qa0 q'
 | exc c h'=>unfold zag at z;split at z<;>cases z
 | ok ds h'=>
  rw [z] at q'
  obtain ⟨rfl,z2⟩:=zb3 z
  exact ⟨ds,z2,q'⟩
theorem zk1 (ho:SE X E o fo) (he:SE X E e fe)
  (hbase:attributeBase o "append" X.env (eval o X.env)=eval o X.env:=by rfl)
  (hfew:((backTo cpos (starEach [e] X.env)).all (fun x=> !x.1) && (backToKw cpos (keywordEach [] X.env)).all (fun x=>x.1.isSome)
    && decide (([e]:List Expr).length+([]:List Keyword).length+(if ([]:List Keyword).isEmpty then 0 else 1)<30))=true:=by rfl)
  (hline:(apos.endLine==cpos.line)=true:=by rfl) (hs:starEach [e] X.env=(false,eval e X.env)::starEach [] X.env:=by rfl) (hplain:(backTo cpos (starEach [] X.env)).any (·.1)=false:=by rfl):
  SE X E (.Call (.Attribute o "append" apos) [e] [] cpos) (zgn fo fe):=by
 refine PE.imp (zmS PySem.F.plainAttrs_list PySem.F.slot_list_append PySem.F.type_list_append zfQ ho (za2 he zcj hs) hbase hfew hline hs hplain) fun σ H Q ⟨ι,h,sd,L,hh,q⟩=>⟨ι,h,sd,L,hh,Fin.bind q fun d h1 ι1 H1 e1 s1 hr1 q1 v rv=> ?_⟩
 cases d with
 | cel n=>
  have q2:Fin X.K E ι1 H1 ((zag n>>=fun _=>fe sd>>=fun y=>zcJ (.cel n) y) h1) (fun d ι' H'=> ∀ v,Rel X.K ι' H' d v->Q v H'):=by
   have ee:(zdB (.cel n)>>=fun _=>fe sd>>=fun y=>zcJ (.cel n) y:M D)=(zag n>>=fun _=>fe sd>>=fun y=>zcJ (.cel n) y):=by
    show ((zag n>>=fun _=>pure ())>>=fun _=>fe sd>>=fun y=>zcJ (.cel n) y)=_
    simp only [bind_assoc,pure_bind]
   rw [<- ee]
   exact q1
  obtain ⟨ds,e2,q3⟩:=ze9 q2
  obtain ⟨a,vs,rfl,hn,hH,rl⟩:=hr1.read rv e2
  refine ⟨.inl ⟨rfl,vs,SqL.of hH⟩,ι1,h1,sd,L.step s1,hr1,Fin.bind q3 fun y h3 ι3 H3 e3 s3 hr3 q4 w rw'=> ?_⟩
  have rv3:=rv.step s3
  have q5:Fin X.K E ι3 H3 ((zag n>>=fun ds=>fits (ds.length+1)>>=fun _=>zbc n (ds++[y])>>=fun _=>pure D.non) h3) (fun d ι' H'=> ∀ v,Rel X.K ι' H' d v->Q v H'):=q4
  obtain ⟨ds3,e4,q6⟩:=ze9 q5
  obtain ⟨a3,vs3,ea,hn3,hH3,rl3⟩:=hr3.read rv3 e4
  cases ea
  obtain ⟨z,q7⟩:=Fin.fits q6
  refine ⟨a,vs3,w,rfl,rfl,hH3,by rw [<- rl3.length];omega,?_⟩
  have q8:Fin X.K E ι3 H3 (R.ok D.non (h3.set n (.lst (ds3++[y])))) (fun d ι' H'=> ∀ v,Rel X.K ι' H' d v->Q v H'):=q7
  exact q8 ι3 _ (hr3.cellS hn3) (hr3.cell hn3 (rl3.append (zal.cons rw' zal.nil))) _ (by simp [Rel])
 | _=>exact qa0 q1
end
end L3
namespace Att
open PySem PySem.W PySem.Calls PyProof.Rows
end Att
namespace L2
open PySem PySem.Spec PyProof.Rows
end L2
namespace L3
open PySem PySem.Spec PyProof.Rows L2 LT
section
variable {X:Cx} {E:XE}
end
end L3
namespace PySem
open Sem (wp)
open AutoSeq1 (wpAny_loadPart')
section
variable {prog:Program} {w:World} {A:Around} {E:Value->Shared->Prop} {s:Shared}
end
end PySem
namespace L2
open PySem PySem.Spec PyProof.Rows LT
theorem zd0: ∀ (ns:List Int) (us:List Value),ns.length=us.length->(∀ (j:Nat) u,us[j]? = some u-> ∃ t,u=Value.int (ns.getD j 0) t)->zaI (ns.map V.int) us
 | [],[],_,_=> .nil
 | [],_::_,h,_=>by cases h
 | _::_,[],h,_=>by cases h
 | n::ns,u::us,h,hg=>by
  refine .cons ?_ (zd0 ns us (by simpa using h) fun j w e=> ?_)
  ·obtain ⟨t,e⟩:=hg 0 u rfl
   exact ⟨t,by simpa using e⟩
  ·obtain ⟨t,e⟩:=hg (j+1) w (by simpa using e)
   exact ⟨t,by simpa using e⟩
section
variable {X:Cx}
theorem zgs:zax X (.type "range") (fun xs H Q=> ∃ j:Int,xs=[.int j]/\ ∀ p,H p=none->Q (.ref p) (upd H p (.rng 0 j))):=by
 intro pins s σ H xs us Q I r h
 obtain ⟨j,rfl,q⟩:=h
 obtain ⟨u,rfl,rx⟩:=zcS r
 obtain ⟨t,rfl⟩:=rx
 refine call_range_1 ?_
 exact ⟨.ref s.heap.objs.size,_,I.laid (t':=s.toks+1+1) (o:= .rng 0 j) (fun b ob q=>qag _ q) (qaV _) ⟨_,_,_,qar _ rfl⟩,rfl,q _ (I.hok.fresh (qaV _))⟩
theorem zlB {j:Int} (h0:0<=j):Builtin.Range.rangeSize 0 j 1=(j.toNat:Int):=by
 unfold Builtin.Range.rangeSize
 rw [qa4 (by decide)]
 split
 ·rw [Int.ediv_one];omega
 ·omega
end
end L2
namespace L3
open PySem PySem.Spec PyProof.Rows L2 LT
section
variable {X:Cx} {E:XE} {e:Expr} {f:FE}
theorem zkN {K:W.Frag} {ι:Io} {H:Hp} {n:Nat}:zal K ι H (zcM 0 n) (((List.range n).map fun (k:Nat)=>(k:Int)).map V.int):=by
 have:zcM 0 n=((List.range n).map fun (k:Nat)=>(k:Int)).map D.int:=by unfold zcM;simp
 rw [this]
 exact zb2.mpr rfl
end
@[simp] theorem zaw {d:D} {r:Sd}:zai 0 (some d::r)=pure d:=rfl
@[simp] theorem zaD {n:Nat} {x:Option D} {r:Sd}:zai (n+1) (x::r)=zai n r:=rfl
noncomputable def zcR (m:Int):Int->List D->Bool
 | _,[]=>true
 | l,.int i::r=>decide (l<=i) && decide (i<m) && zcR m (i+1) r
 | _,_::_=>false
theorem zbh {m:Int}: ∀ {xs:List Int} {l:Int},zcR m l (xs.map D.int)=true↔xs.Pairwise (· < ·)/\ ∀ x∈xs,l<=x/\x<m
 | [],l=>by simp [zcR]
 | x::r,l=>by
  rw [qaM,zcR,qaG,qaG,zbh (xs:=r) (l:=x+1),qay]
  simp only [qaD,qaP,forall_eq_or_imp]
  constructor
  ·rintro ⟨⟨h1,h2⟩,h3,h4⟩
   refine ⟨⟨fun y hy=> ?_,h3⟩,⟨h1,h2⟩,fun y hy=> ?_⟩
   ·have:=(h4 y hy).1;omega
   ·have:=h4 y hy;omega
  ·rintro ⟨⟨h1,h2⟩,⟨h3,h4⟩,h5⟩
   refine ⟨⟨h3,h4⟩,h2,fun y hy=> ?_⟩
   have a1:=h1 y hy
   have a2:=h5 y hy
   omega
theorem zeW {m:Int}: ∀ {ts:List D} {l:Int},zcR m l ts=true->ts.all isI=true
 | [],_,_=>rfl
 | d::r,l,h=>by
  cases d<;>first
   | (simp [zcR] at h;done)
   | (rw [zcR,qaG] at h;rw [List.all_cons,zeW h.2];rfl)
theorem zgM: ∀ {ts:List D},ts.all isI=true-> ∃ xs:List Int,ts=xs.map D.int
 | [],_=>⟨[],rfl⟩
 | d::r,h=>by
  rw [List.all_cons,qaG] at h
  obtain ⟨xs,e⟩:=zgM h.2
  cases d<;>first
   | (simp [isI] at h;done)
   | (rename_i i;exact ⟨i::xs,by rw [e];rfl⟩)
theorem zdJ {m:Int}: ∀ {ts:List D} {l:Int},zcR m l ts=true->l<=m->(ts.length:Int)<=m - l
 | [],l,_,h=>by simp;omega
 | d::r,l,h,hl=>by
  cases d<;>first
   | (simp [zcR] at h;done)
   | (rename_i i
      rw [zcR,qaG,qaG,qaD,qaD] at h
      have:=zdJ h.2 (by omega)
      simp
      omega)
def Bx (b:Nat) (h:Hh):Prop:= ∃ z:Int,h[b]? = some (.lst [.int z])
def Ext (b:Nat) (h h':Hh):Prop:=Bx b h'/\ ∀ (n:Nat) (c:C),n≠b->h[n]? = some c->h'[n]? = some c
theorem Ext.refl {b:Nat} {h:Hh} (q:Bx b h):Ext b h h:=⟨q,fun _ _ _ e=>e⟩
theorem Ext.trans {b:Nat} {h h1 h2:Hh} (p:Ext b h h1) (q:Ext b h1 h2):Ext b h h2:=⟨q.1,fun n c hn e=>q.2 n c hn (p.2 n c hn e)⟩
theorem Bx.set {b:Nat} {h:Hh} {z:Int} (q:Bx b h):Ext b h (h.set b (.lst [.int z])):=by
 obtain ⟨y,e⟩:=q
 have hl:=(qac.mp e).1
 exact ⟨⟨z,qai hl⟩,fun n c hn e=>by rw [qao (Ne.symm hn)];exact e⟩
theorem Bx.push {b:Nat} {h:Hh} {c:C} (q:Bx b h):Ext b h (h++[c]):=by
 obtain ⟨y,e⟩:=q
 have hl:=(qac.mp e).1
 refine ⟨⟨y,by rw [qad hl];exact e⟩,fun n c' hn e=> ?_⟩
 rw [qad (qac.mp e).1]
 exact e
theorem zbR {j:Int} (h0:0<=j) (h:j<1000):ziE [.int j]=pure (zcM 0 j.toNat):=by
 show (if zcL j=true then _ else _)=_
 rw [qa4 (by unfold zcL;simp;omega)]
theorem ze2 {n:Nat} {d:D} (h:d∈zcM 0 n): ∃ i:Int,d= .int i/\0<=i/\i<n:=by
 unfold zcM at h
 obtain ⟨k,hk,e⟩:=qaU.mp h
 have:=List.mem_range.mp hk
 exact ⟨0+(k:Int),e.symm,by omega,by omega⟩
theorem zff {n:Nat}:(zcM 0 n).length=n:=by unfold zcM;simp
theorem zca (n:Nat):zcM 0 n=((List.range n).map fun (k:Nat)=>(k:Int)).map D.int:=by unfold zcM;simp
theorem zaA {α:Type} {c:Prop} [Decidable c] {a b:M α} {h:Hh} {P:α->Hh->Prop}:wp (if c then a else b) h P↔if c then wp a h P else wp b h P:=by split<;>exact Iff.rfl
theorem zgG {m:Int} (h0:0<=m) (h:m<=1000):zpW (.int 1) (.int m)=pure (.int (1*2^m.toNat)):=by
 show (if zoe 1 m=true then _ else _)=_
 rw [qa4 (by unfold zoe;simp;omega)]
theorem zng {i m:Int} (h0:0<=m):zre (.int i) (.int m)=pure (.int (i / 2^m.toNat)):=by
 show (if decide (0<=m)=true then _ else _)=_
 rw [qa4 (by simpa using h0)]
theorem zm4:zqr (.int 10) (.int 12)=pure (.int 1000000000000):=by
 unfold zqr dII
 simp only
 rw [qa4 (by decide)]
 rfl
theorem zmy (i:Int):Builtin.bitAnd i 1=i % 2:=by
 exact bitAnd_m1 i
theorem zdk {f:D->M (Option D)} {k:D->Option D} {h:Hh}: ∀ {ds:List D} {P:List D->Hh->Prop},(∀ x∈ds,wp (f x) h fun o h'=>o=k x/\h'=h)->P (ds.filterMap k) h->wp (za1 f ds) h P
 | [],P,_,q=>by rw [za1,zaj];exact q
 | x::r,P,hf,q=>by
  rw [za1,zah]
  refine zjA (hf x qau) ?_
  rintro o h' ⟨rfl,rfl⟩
  rw [zah]
  refine zdk (k:=k) (fun y hy=>hf y (qan _ hy)) ?_
  rw [zaj]
  cases e:k x with
  | none=>rw [qat,e] at q;exact q
  | some y=>rw [qat,e] at q;exact q
theorem zhV {fi:FA} {g:D->Sd->M Sd} {tc:FT} {te:FE} {src:List (Option Nat)} {sd:Sd} {ds:List D} {k:D->Option D} {h:Hh} {P:D->Hh->Prop} (hi:fi sd=pure ds) (hl:ds.length<=1000) (hf: ∀ x∈ds,wp (zaH g tc te (zae src sd) x) h fun o h'=>o=k x/\h'=h) (q:P (.lst (ds.filterMap k)) h):wp (zaG fi g tc te src sd) h P:=by
 unfold zaG
 rw [hi]
 simp only [pure_bind]
 rw [zaq hl]
 simp only [pure_bind]
 rw [zah]
 refine zdk hf ?_
 rw [zaj]
 exact q
theorem zmH {xs:List Int} {i:Int} (h:xs.Pairwise (· < ·)) (hi:i∉xs):(zbi (xs++[i])).Pairwise (· < ·):=by
 have hn:(xs++[i]).Nodup:=by
  rw [List.nodup_append]
  refine ⟨h.imp fun z=>by omega,by simp,fun a ha b hb=> ?_⟩
  simp at hb
  subst hb
  exact fun z=>hi (z▸ha)
 have hn2:(zbi (xs++[i])).Nodup:=(zap _).nodup_iff.mpr hn
 exact ((zcy (xs++[i])).and hn2).imp fun ⟨a,b⟩=>by omega
end L3
namespace L2
open PySem PySem.Spec PyProof.Rows L3
theorem zbp.there {P:Program} {w:World} {H:Hp} {h:Heap} {a:Addr} {o:HO} (x:zbp P w H h a o): ∃ ob,h.get? a=some ob:=by
 cases o with
 | lst xs=>obtain ⟨_,_,_,_,e⟩:=x;exact ⟨_,e⟩
 | tup xs=>obtain ⟨_,_,_,ob,e,_⟩:=x;exact ⟨ob,e⟩
 | dK kvs=>obtain ⟨_,_,_,_,ob,_,_,e,_⟩:=x;exact ⟨ob,e⟩
 | dT kvs=>obtain ⟨_,_,_,_,ob,_,_,e,_⟩:=x;exact ⟨ob,e⟩
 | set S n=>obtain ⟨ob,_,_,_,e,_⟩:=x;exact ⟨ob,e⟩
 | ins C dx fs=>obtain ⟨_,_,_,e,_⟩:=x;exact ⟨_,e⟩
 | own y=>exact x
 | xd fs=>obtain ⟨_,⟨ob,_,_,e,_⟩,_⟩:=x;exact ⟨ob,e⟩
 | rng lo hi=>obtain ⟨_,_,_,e⟩:=x;exact ⟨_,e⟩
 | frz ob u=>exact ⟨ob,x.1⟩
 | tbl ps=>exact ⟨_,x⟩
 | met f y=>exact ⟨_,x⟩
 | ext φ=>exact x.2.1
structure HS (H H':Hp) (h:Heap):Prop where
 free: ∀ b o,h.get? b=some o->H b=none->H' b=none
 tups: ∀ b xs,H b=some (.tup xs)->H' b=some (.tup xs)
 frzs: ∀ b o u,H b=some (.frz o u)->H' b=some (.frz o u)
 tbls: ∀ b ps,H b=some (.tbl ps)-> ∃ more,H' b=some (.tbl (ps++more))
structure FlB (P:Program) (w:World) (l:List Env) (H:Hp) (h:Heap) (H':Hp) (B:Heap):Prop where
 old: ∀ b o,h.get? b=some o->b∉frs l-> ∃ o',B.get? b=some o'/\(H b=none->o'=o)
 trk: ∀ b u,H' b=some u-> ∃ o,B.get? b=some o
 ok:HOk P w H' B
structure Fl (P:Program) (w:World) (l:List Env) (H:Hp) (s:Shared) (a C:Addr) (fl:Value) (H':Hp) (s':Shared):Prop where
 os:s'.os=s.os
 bare:AllBare s'.gens
 base: ∃ B:Heap,Fly B l a (.ref C) fl s'.heap/\FlB P w l H s.heap H' B
 slot: ∀ b o,s.heap.get? b=some o->H b=none->b∈frs l-> ∃ sl,s'.heap.get? b=some {o with slots:=sl}
 hs:HS H H' s.heap
section
variable {P:Program} {w:World} {l:List Env} {H H':Hp} {s s':Shared} {a C:Addr} {fl:Value}
theorem Fl.un (y:Fl P w l H s a C fl H' s'):Un (frs l) [] H H' s.heap s'.heap:=by
 obtain ⟨B,y1,y2⟩:=y.base
 refine ⟨fun b o e n hb _=> ?_,fun b o e n hb _=>y.slot b o e n hb,fun b o e n _=>y.hs.free b o e n,fun b o e _=> ?_,y.hs.tups,y.hs.frzs,y.hs.tbls⟩
 ·obtain ⟨o',e',q⟩:=y2.old b o e hb
  rw [<- q n]
  exact y1.stays b o' e'
 ·by_cases hb:b∈frs l
  ·obtain ⟨_,o',e',_⟩:=y1.frames.mem hb
   exact ⟨o',e'⟩
  ·obtain ⟨o',e',_⟩:=y2.old b o e hb
   exact ⟨o',y1.stays b o' e'⟩
theorem Fl.hok (y:Fl P w l H s a C fl H' s'):HOk P w H' s'.heap:=by
 obtain ⟨B,y1,y2⟩:=y.base
 exact y2.ok.kept y1.stays
theorem Fl.exc (y:Fl P w l H s a C fl H' s'): ∃ head,zgK s'.heap a (.ref C) head:=by
 obtain ⟨B,y1,y2⟩:=y.base
 obtain ⟨hd,z,_⟩:=y1.exc
 exact ⟨hd,z⟩
theorem Fl.fresh (y:Fl P w l H s a C fl H' s'):s.heap.get? a=none/\H' a=none/\a∉frs l:=by
 obtain ⟨B,y1,y2⟩:=y.base
 have nf:a∉frs l:=fun z=>by
  obtain ⟨_,o,e,n⟩:=y1.frames.mem z
  obtain ⟨_,⟨ob,vs,e2,_,_,d,_⟩,_⟩:=y1.exc
  rw [e] at e2
  cases e2
  exact n vs d
 refine ⟨?_,?_,nf⟩
 ·cases q:s.heap.get? a with
  | none=>rfl
  | some o=>
   obtain ⟨o',e,_⟩:=y2.old a o q nf
   rw [y1.new] at e
   cases e
 ·cases q:H' a with
  | none=>rfl
  | some u=>
   obtain ⟨o',e⟩:=y2.trk a u q
   rw [y1.new] at e
   cases e
theorem Fl.mv {B h':Heap} {fl':Value} (os:s'.os=s.os) (bare:AllBare s'.gens) (slot: ∀ b o,s.heap.get? b=some o->H b=none->b∈frs l-> ∃ sl,s'.heap.get? b=some {o with slots:=sl}) (hs:HS H H' s.heap)
  (fr:s'.heap.FunFrames B l) (z:Fly B l a (.ref C) fl' h') (y:FlB P w l H s.heap H' B) (u:s'.heap.UpToSlots h'):Fl P w l H s a C fl' H' {s' with heap:=h'}:=by
 refine ⟨os,bare,⟨B,z,y⟩,fun b o e n hb=> ?_,hs⟩
 obtain ⟨sl,e2⟩:=slot b o e n hb
 obtain ⟨_,o2,e3,n3⟩:=fr.mem hb
 rw [e2] at e3
 cases e3
 obtain ⟨sl',e4⟩:=u b _ e2 n3
 exact ⟨sl',e4⟩
section
variable {M:Model} {A:Around} {E:Value->Shared->Prop} {env:Env} {outer:List Env} {L:Addr} {Q:Unit->Shared->Prop}
theorem Fl.note (y:Fl P w (env::outer) H s a C .none H' s') (hfr:A.frames=some (env::outer)) (hf:env.frame=some L) (k: ∀ h',Fl P w (env::outer) H s a C (rawInt L) H' {s' with heap:=h'}->Q () {s' with heap:=h'}):
  wpAny M A (noteFrame (.ref a) env) Q E s':=by
 obtain ⟨B,y1,y2⟩:=y.base
 exact ziv hfr hf y1 fun h' z u=>k h' (Fl.mv y.os y.bare y.slot y.hs y1.frames z y2 u)
theorem Fl.off (y:Fl P w l H s a C fl H' s') (k: ∀ h',Fl P w l H s a C .none H' {s' with heap:=h'}->Q () {s' with heap:=h'}):wpAny M A (setFlight (.ref a) none) Q E s':=by
 obtain ⟨B,y1,y2⟩:=y.base
 exact zdi y1 fun h' z u=>k h' (Fl.mv y.os y.bare y.slot y.hs y1.frames z y2 fun b o e n=>⟨o.slots,u b o e n⟩)
end
end
structure zei (X:Cx):Prop where
 stk:X.stack=X.env::X.outer
 frm:X.env.frame=some X.env.locals
 ex:X.ex=[]
theorem zei.frs {X:Cx} (z:zei X):frs X.stack=X.env.locals::frs X.outer:=by
 rw [z.stk]
 unfold L2.frs
 rw [qat,z.frm]
section
variable {X:Cx} {pins:List (Addr×Obj)} {σ:St} {H H':Hp} {s s':Shared} {a C:Addr} {M:Model} {E:Value->Shared->Prop} {Q:Unit->Shared->Prop}
theorem Inv.below (I:Inv X pins σ H s) {b:Addr} {o:Obj} (e:X.s₀.heap.get? b=some o):b≠X.env.locals:=qaR (qaw (qaQ e) I.ok.above)
theorem Fl.leave (z:zei X) (I:Inv X pins σ H s) (y:Fl X.prog X.w X.stack H s a C .none H' s') (k: ∀ s2,Fl X.prog X.w X.outer X.H₀ X.s₀ a C .none H' s2->Q () s2):wpAny M X.A (leaving X.env (.ref a)) Q E s':=by
 have nex: ∀ b,b∉X.ex:=fun b h=>by rw [z.ex] at h;cases h
 obtain ⟨B,y1,y2⟩:=y.base
 have hfr:=I.ok.frames
 rw [z.stk] at hfr y1
 refine zkr hfr z.frm y1 fun h' q u=>k _ ?_
 have nin: ∀ b o,X.s₀.heap.get? b=some o->b∉frs X.outer->b∉frs X.stack:=fun b o e hb hm=>by
  rw [z.frs] at hm
  rcases qaP.mp hm with r | r
  ·exact I.below e r
  ·exact hb r
 refine ⟨y.os.trans I.os,y.bare,⟨B,q,fun b o e hb=> ?_,y2.trk,y2.ok⟩,fun b o e n hb=> ?_,fun b o e n=> ?_,fun b xs e=>y.hs.tups b xs (I.base.tups b xs e),fun b o v e=>y.hs.frzs b o v (I.base.frzs b o v e),fun b ps e=> ?_⟩
 ·obtain ⟨o1,e1⟩:=I.base.there b o e (nex b)
  obtain ⟨o2,e2,q2⟩:=y2.old b o1 e1 (nin b o e hb)
  refine ⟨o2,e2,fun n=> ?_⟩
  have e3:=I.base.keep b o e n hb (nex b)
  rw [e1] at e3
  cases e3
  exact q2 (I.base.free b o e n (nex b))
 ·obtain ⟨sl,e1⟩:=I.base.slot b o e n hb (nex b)
  have hb2:b∈frs X.stack:=by rw [z.frs];exact qan _ hb
  obtain ⟨sl2,e2⟩:=y.slot b _ e1 (I.base.free b o e n (nex b)) hb2
  obtain ⟨_,o3,e3,n3⟩:=y1.frames.mem (by rw [<- z.stk];exact hb2)
  rw [e2] at e3
  cases e3
  obtain ⟨sl4,e4⟩:=u b _ e2 n3
  exact ⟨sl4,e4⟩
 ·obtain ⟨o1,e1⟩:=I.base.there b o e (nex b)
  exact y.hs.free b o1 e1 (I.base.free b o e n (nex b))
 ·obtain ⟨m1,e1⟩:=I.base.tbls b ps e
  obtain ⟨m2,e2⟩:=y.hs.tbls b _ e1
  exact ⟨m1++m2,by rw [e2,Array.append_assoc]⟩
theorem Fl.made {h':Heap} {vs:List Value} (z:zei X) (I:Inv X pins σ H s) (m:Heap.MadeExcOf s.heap h' a (.ref C) vs) (k: ∀ s2,Fl X.prog X.w X.outer X.H₀ X.s₀ a C .none H s2->Q () s2):wpAny M X.A (leaving X.env (.ref a)) Q E {s with heap:=h'}:=by
 have nex: ∀ b,b∉X.ex:=fun b h=>by rw [z.ex] at h;cases h
 have hfr:=I.ok.frames
 have hl:=I.stack
 have hin: ∀ env∈X.stack, ∀ b,env.frame=some b->b∈frs X.stack:=fun env he b hb=>List.mem_filterMap.mpr ⟨env,he,hb⟩
 have hl2:=W.funFrames_hide hl hin
 have hl3:h'.FunFrames (W.hideAll s.heap (frs X.stack)) X.stack:=hl2.of_keeps fun b o e _=>⟨o,m.keeps b o e,rfl⟩
 have inB: ∀ {b:Addr} {o:Obj},s.heap.get? b=some o->b∉frs X.stack->(W.hideAll s.heap (frs X.stack)).get? b=some o:=fun e n=>W.hideAll_get _ e n
 have ofB: ∀ {b:Addr} {o:Obj},(W.hideAll s.heap (frs X.stack)).get? b=some o->s.heap.get? b=some o:=fun e=>W.of_hideAll _ e
 have trk: ∀ b u,H b=some u->b∉frs X.stack:=fun b u e hm=>by rw [I.stkFree b hm] at e;cases e
 have newB:(W.hideAll s.heap (frs X.stack)).get? a=none:=by
  cases q:(W.hideAll s.heap (frs X.stack)).get? a with
  | none=>rfl
  | some o=>have:=ofB q;rw [m.new] at this;cases this
 have hst:=z.stk
 refine zgF (B:=W.hideAll s.heap (frs X.stack)) (by rw [<- hst];exact hfr) (by rw [<- hst];exact hl3) z.frm (zli m) (fun b o e=>m.keeps b o (ofB e)) newB fun h2 q u=>k _ ?_
 have nin: ∀ b o,X.s₀.heap.get? b=some o->b∉frs X.outer->b∉frs X.stack:=fun b o e hb hm=>by
  rw [z.frs] at hm
  rcases qaP.mp hm with r | r
  ·exact I.below e r
  ·exact hb r
 refine ⟨I.os,I.bare,⟨_,q,fun b o e hb=> ?_,fun b v e=> ?_,fun b v e=> ?_⟩,fun b o e n hb=> ?_,fun b o e n=>I.base.free b o e n (nex b),I.base.tups,I.base.frzs,I.base.tbls⟩
 ·obtain ⟨o1,e1⟩:=I.base.there b o e (nex b)
  refine ⟨o1,inB e1 (nin b o e hb),fun n=> ?_⟩
  have e3:=I.base.keep b o e n hb (nex b)
  rw [e1] at e3
  cases e3
  rfl
 ·obtain ⟨o,e1⟩:=(I.hok b v e).there
  exact ⟨o,inB e1 (trk b v e)⟩
 ·refine (I.hok b v e).stay (fun c o hc e1=>inB e1 ?_) (fun _ r=>r) fun _ _ r=>r
  rcases hc with rfl | hc
  ·exact trk _ v e
  ·exact trk _ _ hc
 ·obtain ⟨sl,e1⟩:=I.base.slot b o e n hb (nex b)
  have hb2:b∈frs X.stack:=by rw [z.frs];exact qan _ hb
  obtain ⟨_,o3,e3,n3⟩:=hl.mem hb2
  rw [e1] at e3
  cases e3
  obtain ⟨sl4,e4⟩:=u b _ (m.keeps b _ e1) n3
  exact ⟨sl4,e4⟩
end
noncomputable def CXE (P:Program) (w:World):CXT:=fun outer H s E e s'=> ∃ a C H',e= .ref a/\Fl P w outer H s a C .none H' s'/\E e (some C) H'
end L2
namespace L3
open PySem PySem.Spec PyProof.Rows L2
def zbk (K:W.Frag) (c:String) (C:Addr):Prop:=W.nsIn K mainGlobals (c:Str)=some (some (.ref C))
noncomputable def zod (K:W.Frag) (E:XE):XK:=fun _ oc H'=> ∃ c C,oc=some C/\zbk K c C/\E c H'
noncomputable def zqn (K:W.Frag) (E:XK):XE:=fun c H'=> ∀ C v,zbk K c C->E v (some C) H'
def znW (X:Cx) (E:XE):Prop:= ∀ (pins:List (Addr×Obj)) (σ:St) (H:Hp) (s:Shared) (h':Heap) (a C:Addr) (c:String) (vs:List Value),Inv X pins σ H s->zbk X.K c C->Heap.MadeExcOf s.heap h' a (.ref C) vs->E c H->X.xe (.ref a) {s with heap:=h'}
section
variable {P:Program} {w:World} {K:W.Frag} {mg:Str->Option Value} {base:Heap} {N:List Str} {qual:Str} {scope:Scope} {f:Addr} {cd:Value} {A:Around} {outer:List Env} {s:Shared} {H:Hp} {E:XK}
theorem zmh:zei (zgj (CXE P w) P w K mg base N qual scope f cd A outer s H E):=⟨rfl,rfl,rfl⟩
theorem zmt:zcW (CXE P w) (zgj (CXE P w) P w K mg base N qual scope f cd A outer s H E) (zod K (zqn K E)):=by
 intro pins σ H1 s1 e s2 I h
 obtain ⟨a,C,H2,rfl,y,c,C',e1,hc,he⟩:=h
 cases e1
 exact Fl.leave zmh I y fun s3 y3=>⟨a,C,H2,rfl,y3,he _ _ hc⟩
theorem zla:znW (zgj (CXE P w) P w K mg base N qual scope f cd A outer s H E) (zqn K E):=by
 intro pins σ H1 s1 h' a C c vs I hc m he
 exact Fl.made zmh I m fun s3 y3=>⟨a,C,H1,rfl,y3,he _ _ hc⟩
end
noncomputable def noX {α:Type} (m:M α):M α:=fun h=>match m h with
 | .exc _ _=> .bad
 | r=>r
theorem Fin.noX {α:Type} {K:W.Frag} {E E':XE} {ι:Io} {H:Hp} {m:M α} {h:Hh} {P:α->Io->Hp->Prop} (q:Fin K E ι H (L3.noX m h) P):Fin K E' ι H (m h) P:=by
 unfold L3.noX at q
 cases e:m h with
 | ok a h'=>rw [e] at q;exact q
 | exc c h'=>rw [e] at q;exact qa0 q
 | bad=>rw [e] at q;exact q
noncomputable def spE (K:W.Frag) (n:Nat) (F:List D->M D):Sp:=fun vs H Q E=>vs.length=n/\ ∃ ι h ds,zal K ι H ds vs/\zaN K ι H h/\Fin K (zqn K E) ι H (F ds h) fun d ι' H'=> ∀ v,Rel K ι' H' d v->Q v H'
section
variable {P:Program} {w:World} {K:W.Frag} {mg:Str->Option Value} {base:Heap}
theorem zl7 {x qual:Str} {st:Stmt} {f:Addr} {fd:FuncData} {N ps:List Str} {k:Nat} {G:Sd->M Out} (F:Fun K x qual st f fd) (S:zar N ps (zaf st))
  (hb: ∀ (cdv:Value) (A:Around) (outer:List Env) (s:Shared) (H:Hp) (E:XK),zcD k (A.deeper (envOfC qual (zaf st) s.heap.objs.size f cdv))->SSs (zgj (CXE P w) P w K mg base N qual (zaf st) f cdv A outer s H E) (zqn K E) (zbW st) G):
  zbZ P w K mg base (CXE P w) (k+1) f fd ps (spE K ps.length (zeo N.length G)):=by
 obtain ⟨oc,od,kV,doc,pm,an,cdv,ct,osl,rfl,lk,hcd⟩:=F.ex
 refine zpq lk hcd S (fun vs H Q E h=>h.1) fun A outer s H vs Q E hr ⟨hl,ι,h,ds,rl,hh,q⟩=>⟨_,hb cdv A outer s H E hr,ι,h,zeB N.length ds,zdj rl,hh,?_⟩
 refine Fin.bind q fun o h1 ι1 H1 e1 s1 hr1 q1=> ?_
 cases o with
 | nx sd=>exact fun σ' _=>Fin.out hr1 q1 _ (by simp [Rel])
 | rt d=>exact fun v rv=>Fin.out hr1 q1 v rv
 | bk sd=>exact qa0 q1
 | ct sd=>exact qa0 q1
end
section
variable {X:Cx} {E:XE} {e:Expr} {es:List Expr} {pos p:Pos}
theorem Fin.exmono {α:Type} {K:W.Frag} {E E':XE} {ι:Io} {H:Hp} {r:R α} {P:α->Io->Hp->Prop} (m: ∀ c H',E c H'->E' c H') (q:Fin K E ι H r P):Fin K E' ι H r P:=by
 cases r with
 | ok a h'=>exact q
 | exc c h'=>exact fun ι2 H2 t hr=>m _ _ (q ι2 H2 t hr)
 | bad=>exact q
theorem zlo {k:Nat} {f:Addr} {fd:FuncData} {ps:List Str} {n:Nat} {F:List D->M D} {fs:Sd->M (List D)} {x:Str} (G:zbZ X.prog X.w X.K X.mg X.base (CXE X.prog X.w) k f fd ps (spE X.K n F)) (hx:zcW (CXE X.prog X.w) X (zod X.K E)) (hr:zcD k X.A) (hg:Gl X x) (hm:X.mg x=some (.ref f)) (hk:W.keepIn X.K (.ref f)=true) (hb:zaQ X.K fd ps [])
  (ha:SA X E (e::es) fs) (hdb:(x==("__debug__":Str))=false:=by decide) (he:starEach (e::es) X.env=(false,eval e X.env)::starEach es X.env:=by rfl) (hpl:(backTo pos (starEach es X.env)).any (·.1)=false:=by rfl):
  SE X E (.Call (.Name x p) (e::es) [] pos) (zaX (zaF n F) fs):=by
 refine PE.imp (zgR G hr hg hm hk hb (dvs:=[]) .nil hx ha hdb he hpl) fun σ H Q ⟨ι,h,sd,L,hh,q⟩=>⟨ι,h,sd,L,hh,Fin.bind q fun ds h1 ι1 H1 e1 s1 hr1 q1 vs rv=> ?_⟩
 show spE X.K n F (vs++[]) H1 Q _
 rw [List.append_nil]
 unfold zaF at q1
 by_cases hl:ds.length=n
 ·rw [qa4 hl] at q1
  exact ⟨by rw [<- rv.length];exact hl,ι1,h1,ds,rv,hr1,Fin.exmono (fun c H' z C v hc=>⟨c,C,rfl,hc,z⟩) q1⟩
 ·rw [qa5 hl] at q1
  exact qa0 q1
theorem zlf {k:Nat} {f:Addr} {fd:FuncData} {ps:List Str} {n:Nat} {F:List D->M D} {fs:Sd->M (List D)} {x:Str} (G:zbZ X.prog X.w X.K X.mg X.base CX0 k f fd ps (zcx X.K n F)) (hr:zcD k X.A) (hg:Gl X x) (hm:X.mg x=some (.ref f)) (hk:W.keepIn X.K (.ref f)=true) (hb:zaQ X.K fd ps [])
  (ha:SA X E (e::es) fs) (hdb:(x==("__debug__":Str))=false:=by decide) (he:starEach (e::es) X.env=(false,eval e X.env)::starEach es X.env:=by rfl) (hpl:(backTo pos (starEach es X.env)).any (·.1)=false:=by rfl):
  SE X E (.Call (.Name x p) (e::es) [] pos) (zaX (zaF n fun ds=>noX (F ds)) fs):=by
 refine PE.imp (zgR G hr hg hm hk hb (dvs:=[]) .nil (E:=fun _ _ _=>False) zpr ha hdb he hpl) fun σ H Q ⟨ι,h,sd,L,hh,q⟩=>⟨ι,h,sd,L,hh,Fin.bind q fun ds h1 ι1 H1 e1 s1 hr1 q1 vs rv=> ?_⟩
 show zcx X.K n F (vs++[]) H1 Q _
 rw [List.append_nil]
 unfold zaF at q1
 by_cases hl:ds.length=n
 ·rw [qa4 hl] at q1
  exact ⟨by rw [<- rv.length];exact hl,ι1,h1,ds,rv,hr1,Fin.noX q1⟩
 ·rw [qa5 hl] at q1
  exact qa0 q1
end
end L3
namespace L2
open PySem PySem.Spec PyProof.Rows L3
structure zcl (k:Nat) (A:Around):Prop where
 dp:A.depth+3*k+5<recursionLimit
 un:A.units+16*k+200<cLine
theorem zcl.of {k:Nat} {A:Around} (r:zcD k A):zcl k A:=⟨r.dp,r.un⟩
theorem zcl.deeper {k:Nat} {A:Around} (r:zcl (k+1) A) (env:Env):zcl k (A.deeper env):=
 ⟨by have:=r.dp;show A.depth+1+3*k+5<_;omega,by have:=r.un;show A.units+3+16*k+200<_;omega⟩
theorem zcl.mono {j k:Nat} {A:Around} (r:zcl k A) (h:j<=k):zcl j A:=⟨by have:=r.dp;omega,by have:=r.un;omega⟩
structure FnH (P:Program) (w:World) (K:W.Frag) (mg:Str->Option Value) (base:Heap) (k:Nat) (f:Addr) (fd:FuncData) (ps:List Str) (sp:Sp):Prop where
 len: ∀ vs H Q E,sp vs H Q E->vs.length=ps.length
 run: ∀ (A:Around) (outer:List Env) (s:Shared) (H:Hp) (args:Args) (us:List Value) (vs:List V) (Q:VK),zcl k A->zkz P w K mg base A outer s H->BindsTo s fd args (ps.zip us)->zaI vs us->sp vs H Q E0->
  codeAny (model P w) A (.call (.ref f) args) (CR CX0 outer P w H s Q E0) s
theorem zow {P:Program} {w:World} {K:W.Frag} {mg:Str->Option Value} {base:Heap} {k:Nat} {f:Addr} {name qual:Str} {params:Arguments} {body:List Stmt} {scope:Scope} {dV kV doc pm cdv ct oc:Value} {an od:Option Addr}
  {osl:Array (Option Value)} {N ps:List Str} {sp:Sp} (lk:K.lookup f=some ⟨oc,od,.func (W.fnOf name qual params body scope dV kV doc pm an cdv ct),osl⟩) (hcd:W.codeIn K cdv qual=true) (S:zar N ps scope)
  (len: ∀ vs H Q E,sp vs H Q E->vs.length=ps.length)
  (hbody: ∀ (A:Around) (outer:List Env) (s:Shared) (H:Hp) (vs:List V) (Q:VK),zcl k (A.deeper (envOfC qual scope s.heap.objs.size f cdv))->sp vs H Q E0->
    ∃ t,PSs ({zgj CX0 P w K mg base N qual scope f cdv A outer s H E0 with calm:=false}:Cx).nox body t/\t {nx:=fun _ H'=>Q .non H',rt:=Q} (zdo N vs) H):
  FnH P w K mg base (k+1) f (W.fnOf name qual params body scope dV kV doc pm an cdv ct) ps sp:=by
 refine ⟨len,fun A outer s H args us vs Q hr e0 hb r hsp=> ?_⟩
 have hl:=len _ _ _ _ hsp
 have KX:K.In s.heap:=e0.mod.kin.keeps fun b o e=>(e0.bs b o e).1
 have lim:s.heap.NoLimit:=e0.mod.nolimit.keeps fun b o e=>(e0.bs b o e).1
 have hkind: ∀ y∈ps.zip us,scope.names.lookup y.1=some .local\/(scope.names.lookup y.1=some .cell/\((cellsFrom (s.heap.objs.size+1) scope.names []).lookup y.1).isSome=true):=fun ⟨n,v⟩ hy=>by
  rcases S.par n (List.of_mem_zip hy).1 with q | q
  ·exact .inl q
  ·exact .inr ⟨q,W.cellsFrom_some _ _ _ (.inl q)⟩
 refine codeAny_call_function (by have:=hr.dp;omega) (KX _ _ lk) rfl S.co S.gen rfl (W.codeRec_of KX hcd) (hb _ _ _ _ ?_)
 refine wpAny_newFunctionEnv_cells S.kind hkind fun env he s1 x=> ?_
 subst he
 refine ⟨lim.keeps x.toInCall.keep,codeAny_func ?_⟩
 obtain ⟨t,ht,hq⟩:=hbody A outer s H vs Q (hr.deeper _) hsp
 have I:Inv {zgj CX0 P w K mg base N qual scope f cdv A outer s H E0 with calm:=false} [] (zdo N vs) H s1:=zgh (cm:=false) S (fun z=>by cases z) e0 hl r x
 refine qaZ (ht.nox [] s1 (zdo N vs) H _ I hq) (fun fl s' hs=> ?_) fun e s' hs=>hs
 have fin: ∀ {σ':St} {H':Hp} {v:V} {u:Value},Inv {zgj CX0 P w K mg base N qual scope f cdv A outer s H E0 with calm:=false} [] σ' H' s'->zbg v u->Q v H'->CE outer P w H s Q u s':=
  fun {σ' H' v u} J rv q=>⟨v,H',J.os,J.bare,J.base,J.hok,rv,q⟩
 cases fl with
 | ret u=>
  obtain ⟨v,σ',H',J,rv,q⟩:=hs
  exact fin J rv q
 | next=>
  obtain ⟨σ',H',J,q⟩:=hs
  exact fin (v:=V.non) (u:=Value.none) J rfl q
 | brk=>
  obtain ⟨_,_,_,q⟩:=hs
  exact qa0 q
 | cont=>
  obtain ⟨_,_,_,q⟩:=hs
  exact qa0 q
section
variable {X:Cx} {pins:List (Addr×Obj)} {σ:St} {H H':Hp} {s s':Shared} {a:Addr} {o:Obj}
theorem Inv.track (I:Inv X pins σ H s) (hH:H a=none) (ho:s.heap.get? a=some o) (h0:X.s₀.heap.get? a=none) (hL:a≠X.env.locals) (hc: ∀ x c,X.env.cells.lookup x=some c->c≠a) (hp: ∀ p∈X.pn++pins,p.1≠a):
  Inv X pins σ (upd H a (.frz o (.own 0))) s:=by
 have un: ∀ {b:Addr} {u:HO},H b=some u->upd H a (.frz o (.own 0)) b=some u:=fun e=>by rw [zao (zaB e hH)];exact e
 refine ⟨I.ok,I.os,I.bare,⟨I.base.keep,I.base.slot,fun b ob e n hx=> ?_,I.base.there,fun b xs e=>un (I.base.tups b xs e),fun b ob u e=>un (I.base.frzs b ob u e),fun b ps e=> ?_⟩,I.loc,I.cell,?_,fun x c e=> ?_,fun p q=> ?_,fun b u e=> ?_,I.len⟩
 ·rw [zao (fun z=>by subst z;rw [h0] at e;cases e)]
  exact I.base.free b ob e n hx
 ·obtain ⟨m,e1⟩:=I.base.tbls b ps e
  exact ⟨m,un e1⟩
 ·rw [zao (Ne.symm hL)]
  exact I.free
 ·rw [zao (hc x c e)]
  exact I.freeC x c e
 ·obtain ⟨e1,e2,e3⟩:=I.pin p q
  exact ⟨e1,by rw [zao (hp p q)];exact e2,e3⟩
 ·by_cases hb:b=a
  ·subst hb
   rw [zau] at e
   cases e
   exact ⟨ho,o,ho⟩
  ·rw [zao hb] at e
   exact (I.hok b u e).stay (fun _ _ _ z=>z) (fun c z=>un z) fun c xs z=>un z
theorem zm8 {M:Model} {A:Around} {E:Value->Shared->Prop} {i:Nat} {x:Str} {pos:Pos} {Q:Unit->Shared->Prop} (I:Inv X pins σ H s) (hN:X.N.Nodup) (hi:X.N[i]? = some x) (hk:X.env.scope.names.lookup x=some .local)
  (h: ∀ s',Inv X pins (σ.set i none) H s'->Q () s'):wpAny M A (do bindName X.env x .none;unbindBehindTheSuite X.env x pos) Q E s:=by
 obtain ⟨m,hn,hl⟩:=id I.loc
 have hcls:(X.env.scope.kind== .class || (X.env.scope.kind== .module && X.env.locals != X.env.globals))=false:=by rw [I.ok.kind];rfl
 have hiσ:i<σ.length:=by rw [I.len];exact (qac.mp hi).1
 have cne:=I.cne
 refine wpAny_nameGoes_keeps hk hn hcls fun h' v hn' hs=> ?_
 obtain ⟨oL,_,_,hoL,_⟩:=id hn
 refine h _ ⟨I.ok,I.os,I.bare,⟨fun b ob e n hb hx=> ?_,fun b ob e n hb hx=> ?_,I.base.free,fun b ob e hx=> ?_,I.base.tups,I.base.frzs,I.base.tbls⟩,⟨_,hn',fun j y v' e1 e2 e3=> ?_⟩,fun y c e=> ?_,I.free,I.freeC,fun p hp=> ?_,fun b ob e=> ?_,by simpa using I.len⟩
 ·exact (hs.2 b (I.below e)).trans (I.base.keep b ob e n hb hx)
 ·obtain ⟨sl,e1⟩:=I.base.slot b ob e n hb hx
  exact ⟨sl,(hs.2 b (I.below e)).trans e1⟩
 ·obtain ⟨o',e1⟩:=I.base.there b ob e hx
  exact ⟨o',(hs.2 b (I.below e)).trans e1⟩
 ·by_cases hj:j=i
  ·subst hj
   rw [qai hiσ] at e2
   cases e2
  ·rw [qao (Ne.symm hj)] at e2
   obtain ⟨u',r',q⟩:=hl j y v' e1 e2 e3
   refine ⟨u',r',?_⟩
   rcases q with ⟨k,e⟩ | ⟨k,c,e,z⟩
   ·refine .inl ⟨k,?_⟩
    have:y≠x:=fun e=>hj (ze4 hN e1 (e▸hi))
    simp [this,e]
   ·exact .inr ⟨k,c,e,z.sameBut hs (cne y c e)⟩
 ·obtain ⟨w',z⟩:=I.cell y c e
  exact ⟨w',z.sameBut hs (cne y c e)⟩
 ·obtain ⟨e,n,ne,nf,d⟩:=I.pin p hp
  exact ⟨(hs.2 p.1 ne).trans e,n,ne,nf,d⟩
 ·refine (I.hok b ob e).stay (fun c w' hc q=>(hs.2 c ?_).trans q) (fun _ q=>q) fun _ _ q=>q
  rintro rfl
  rcases hc with rfl | hc
  ·rw [I.free] at e;cases e
  ·rw [I.free] at hc;cases hc
end
section
variable {X:Cx} {pins:List (Addr×Obj)} {σ:St} {H H':Hp} {s s':Shared} {a C CE:Addr} {ce en:Str} {pce pos:Pos} {b₀:Stmt} {suite:List Stmt} {j:Nat} {Q:Flow->Shared->Prop} {E:Value->Shared->Prop}
theorem Fl.caught (z:zei X) (I:Inv X pins σ H s) (y:Fl X.prog X.w X.stack H s a C .none H' s') (hN:X.N.Nodup) (hj:X.N[j]? = some en) (hen:X.env.scope.names.lookup en=some .local) (hg:Gl X ce) (hm:X.mg ce=some (.ref CE)) (hx:W.exmOne X.K (.ref C) (.ref CE)=some true)
  (k: ∀ s6,Inv X pins (σ.set j (some (.ref a))) H' s6->(∃ head,zgK s6.heap a (.ref C) head)->wpAny (model X.prog X.w) (X.A.mark (some (.ref a))) (execs (b₀::suite) X.env)
    (fun f s4=>wpAny (model X.prog X.w) X.A (do bindName X.env en .none;unbindBehindTheSuite X.env en pos) (fun _ s5=>Q f s5) E s4) (fun _ _=>False) s6) (hd:(ce==("__debug__":Str))=false:=by decide):
  wpAny (model X.prog X.w) X.A (noteFrame (.ref a) X.env) (fun _ s2=>wpAny (model X.prog X.w) X.A (setFlight (.ref a) none) (fun _ s3=>
    wpAny (model X.prog X.w) X.A (handleBy (.ref a) X.env [.ExceptHandler (some (.Name ce pce)) (some en) (b₀::suite) pos]) Q E s3) E s2) E s':=by
 have hfr:=I.ok.frames
 rw [z.stk] at hfr y
 refine y.note hfr z.frm fun h3 y3=> ?_
 refine y3.off fun h4 y4=> ?_
 have ev: ∀ {hp fl},Fl X.prog X.w (X.env::X.outer) H s a C fl H' {s' with heap:=hp}->Inv X pins σ H' {s' with heap:=hp}:=fun {hp fl} y=>by
  have u:=y.un
  rw [<- z.stk] at u
  exact I.call' y.os u y.hok y.bare fun b q=>absurd q (by simp)
 have I4:=ev y4
 obtain ⟨hd4,x4⟩:=y4.exc
 have LT:W.Looks (model X.prog X.w) h4 (typeOf (.ref a)) (.ref C):=by
  obtain ⟨ob,vs,e1,e2,_⟩:=x4
  exact e2▸(W.Looks.ld e1).andThen .now
 refine wpAny_handleBy_cons (codeAny_handlers_test ?_) (by intro q;cases q)
 refine Calls.Name_function_global I4.ok.kind hg (Calls.loadGlobal_global (by rw [I4.ok.glob];exact I4.mod.glob.keeps I4.bk) hm ?_) hd
 refine (W.exm_one I4.kIn LT hx).here ?_
 refine codeAny_handlers_suite_as ?_
 refine y4.off fun h5 y5=> ?_
 have I5:=ev y5
 obtain ⟨hd5,x5⟩:=y5.exc
 have na:a≠X.env.locals/\ ∀ x c,X.env.cells.lookup x=some c->c≠a:=by
  obtain ⟨f1,f2,f3⟩:=y.fresh
  refine ⟨fun q=> ?_,fun x c e q=> ?_⟩
  ·obtain ⟨m,⟨oL,_,_,hoL,_⟩,_⟩:=I.loc
   rw [<- q,f1] at hoL
   cases hoL
  ·obtain ⟨v,oc,hoc,_⟩:=I.cell x c e
   rw [q,f1] at hoc
   cases hoc
 refine zfn I5 hN hj (.inl hen) (v:= .ref a) rfl (fun s6 I6 ⟨b,sb,hb⟩=> ?_) (.inr hen)
 refine qaZ (k s6 I6 ⟨hd5,x5.keep fun ob e=>(sb.2 a fun q=> ?_).trans e⟩) (fun _ _ q=>q) fun _ _ q=>q.elim
 rcases hb with hb | hb
 ·exact na.1 (q.trans hb)
 ·exact na.2 en b hb q.symm
end
noncomputable abbrev zjP:List Value:=[.type "ValueError",.type "Exception",.type "BaseException",.type "object"]
theorem znb {K:W.Frag} {h:Heap} {mg:Str->Option Value} {x:Str} {C:Addr} {bm:List Value} {nid:String} (X:K.In h) (hm:mg x=some (.ref C)) (q:W.excIn K C bm nid=true):OwnCls x C bm nid mg h:=by
 refine ⟨hm,?_⟩
 unfold W.excIn at q
 split at q
 ·rename_i dd cdt sl lk
  split at q
  ·rename_i C2 tl y0 y1 y2 y3 nn y5 hmro hsl
   simp only [qaG,beq_iff_eq,Bool.not_eq_true'] at q
   obtain ⟨⟨⟨⟨⟨rfl,rfl⟩,q3⟩,q4⟩,q5⟩,q6⟩:=q
   obtain ⟨z1,z2,z3,z4,z5,z6,z7,z8,z9,z10,z11⟩:=cdt
   dsimp only at hmro q3 q5 q6
   subst hmro q3
   obtain rfl:sl= #[y0,y1,y2,y3,some (.builtin nn),y5]:=by
    obtain ⟨ll⟩:=sl
    dsimp only at hsl
    rw [hsl]
   exact ⟨tl,z4,z1,z5,z2,z6,z7,z8,z9,z10,dd,y0,y1,y2,y3,y5,_,X _ _ lk,.of_isNs (W.isNs_of_in X q5),W.nsMap_none_of_in X q5 q6,W.tail_of_in X q4⟩
  ·cases q
 ·cases q
noncomputable def Cx.re (X:Cx) (pn:List (Addr×Obj)) (xe:Value->Shared->Prop):Cx:={X with pn:=pn,xe:=xe}
section
variable {X:Cx} {pins pins':List (Addr×Obj)} {σ:St} {H H':Hp} {s s':Shared} {xe:Value->Shared->Prop}
theorem Inv.re (I:Inv X pins σ H s) (xe:Value->Shared->Prop):Inv (X.re (X.pn++pins) xe) [] σ H s:=
 ⟨⟨I.ok.mod,I.ok.kind,I.ok.glob,I.ok.blt,I.ok.above,I.ok.inj,I.ok.has,I.ok.cab,I.ok.hd,I.ok.hx,I.ok.frames,I.ok.stk,I.ok.exf,I.ok.bs,I.ok.bsz,I.ok.noex,I.ok.exfs,I.ok.funs,I.ok.frf⟩,I.os,I.bare,I.base,I.loc,I.cell,I.free,I.freeC,fun p hp=>I.pin p (by simpa [Cx.re] using hp),I.hok,I.len⟩
theorem Inv.unre (I:Inv (X.re (X.pn++pins) xe) pins' σ H s):Inv X pins σ H s:=
 ⟨⟨I.ok.mod,I.ok.kind,I.ok.glob,I.ok.blt,I.ok.above,I.ok.inj,I.ok.has,I.ok.cab,I.ok.hd,I.ok.hx,I.ok.frames,I.ok.stk,I.ok.exf,I.ok.bs,I.ok.bsz,I.ok.noex,I.ok.exfs,I.ok.funs,I.ok.frf⟩,I.os,I.bare,I.base,I.loc,I.cell,I.free,I.freeC,fun p hp=>I.pin p (List.mem_append_left _ hp),I.hok,I.len⟩
theorem SP.unre {D:zmk} {f:Flow} (h:SP (X.re (X.pn++pins) xe) pins' D f s'):SP X pins D f s':=by
 cases f with
 | next=>obtain ⟨σ',H',I,q⟩:=h;exact ⟨σ',H',I.unre,q⟩
 | brk=>obtain ⟨σ',H',I,q⟩:=h;exact ⟨σ',H',I.unre,q⟩
 | cont=>obtain ⟨σ',H',I,q⟩:=h;exact ⟨σ',H',I.unre,q⟩
 | ret u=>obtain ⟨v,σ',H',I,r,q⟩:=h;exact ⟨v,σ',H',I.unre,r,q⟩
end
end L2
namespace L3
open PySem PySem.Spec PyProof.Rows L2
section
variable {X:Cx} {pins:List (Addr×Obj)} {σ:L2.St} {H:Hp} {s:Shared} {a C:Addr} {o:Obj} {vs:Array Value} {head:Value} {c:String} {gk en pe:Str} {p1 p2 p3:Pos} {j k:Nat} {fk:Addr} {fdk:FuncData} {Fk:List D->M D} {Qv:VK} {ι:Io} {h:Hh}
theorem zi2 (I:Inv X pins σ H s) (hH:H a=none) (ho:s.heap.get? a=some o) (ob:o.cls= .ref C/\o.dict=none/\o.data= .fields vs/\vs[2]? = some .none/\vs[1]? = some head)
  (h0:X.s₀.heap.get? a=none) (hL:a≠X.env.locals) (hcl: ∀ x c,X.env.cells.lookup x=some c->c≠a) (hp: ∀ p∈X.pn++pins,p.1≠a) (hj:X.N[j]? = some en) (hσ:σ[j]? = some (some (.ref a))) (hen:X.env.scope.names.lookup en=some .local)
  (FH:FnH X.prog X.w X.K X.mg X.base k fk fdk [pe] (zcx X.K 1 Fk)) (hb:zaQ X.K fdk [pe] []) (hg:Gl X gk) (hm:X.mg gk=some (.ref fk)) (kp:W.keepIn X.K (.ref fk)=true) (hr:zcl k X.A) (hc:zbk X.K c C) (hh:zaN X.K ι H h)
  (q:Fin X.K E0x ι (upd H a (.frz o (.own 0))) (Fk [.exn c] h) fun d ι' H'=> ∀ v,Rel X.K ι' H' d v->Qv v H') (hd:(gk==("__debug__":Str))=false:=by decide) (hd2:(en==("__debug__":Str))=false:=by decide):
  wpAny (model X.prog X.w) (X.A.mark (some (.ref a))) (eval (.Call (.Name gk p1) [.Name en p2] [] p3) X.env) (fun u s8=> ∃ v H8,Inv X pins σ H8 s8/\zbg v u/\Qv v H8) (fun _ _=>False) s:=by
 have It:=I.track hH ho h0 hL hcl hp
 have E0':=It.env0
 refine wpAny_Call_Name_kw (Calls.Name_function_global I.ok.kind hg (Calls.loadGlobal_global (by rw [I.ok.glob];exact I.mod.glob.keeps I.bk) hm ?_) hd)
 refine W.callWith_K (h₀:=X.base) I.ok.mod.kin kp ?_
 refine Calls.spliced_cons ?_
 obtain ⟨m,hn,hl⟩:=It.loc
 obtain ⟨u,r,l⟩:=hl j en (.ref a) hj hσ (.inl hen)
 obtain rfl:u=Value.ref a:=r
 have hme:m en=some (.ref a):=by
  rcases l with ⟨_,e⟩ | ⟨e,_⟩
  ·exact e
  ·exfalso
   have e':X.env.scope.names.lookup en=some .cell\/X.env.scope.names.lookup en=some .free:=e
   rw [hen] at e'
   rcases e' with e' | e'<;>cases e'
 refine wpAny_Name (wpAny_loadName_local I.ok.kind hen hn hme ?_) hd2
 refine Calls.spliced_nil ⟨It.kIn,?_⟩
 have e0:zkz X.prog X.w X.K X.mg X.base (X.A.mark (some (.ref a))) X.stack s (upd H a (.frz o (.own 0))):=
  ⟨It.ok.frames,E0'.mod,E0'.bs,E0'.bsz,E0'.funs,E0'.frf,E0'.hok,E0'.bare,.inr ⟨a,o,.ref C,head,vs,rfl,zau,ob⟩⟩
 have sp:zcx X.K 1 Fk [.ref a] (upd H a (.frz o (.own 0))) Qv E0:=
  ⟨rfl,ι,h,[.exn c],zal.cons (by simp only [Rel];exact ⟨a,o,C,head,vs,rfl,⟨zau,hh.nin hH⟩,hc,ob⟩) zal.nil,hh.laid hH,q⟩
 refine wpAny_call (codeAny_mono (FH.run (X.A.mark (some (.ref a))) X.stack s _ ⟨[.ref a],[]⟩ [.ref a] [.ref a] Qv ⟨hr.dp,hr.un⟩ e0 (hb s [.ref a] It.kIn rfl) (.cons rfl .nil) sp) fun r s' hq=> ?_)
 cases r with
 | error e=>exact qa0 hq
 | ok fl=>
  cases fl with
  | ret u=>exact It.after hq
  | next=>exact qa0 hq
  | brk=>exact qa0 hq
  | cont=>exact qa0 hq
end
noncomputable def zgP (known:List String) (gb:FS) (Fk:List D->M D):FS:=fun sd h=>match gb sd h with
 | .exc c h1=>if known.contains c=true then (do let d<-noX (Fk [.exn c]);pure (.rt d):M Out) h1 else .bad
 | r=>r
section
variable {X:Cx} {E:XE} {body:List Stmt} {ce en gk pe x:Str} {pce p1 p2 p3 p4 p5 hp pos:Pos} {CE fk:Addr} {fdk:FuncData} {Fk:List D->M D} {gb:FS} {j k i:Nat} {known:List String}
theorem zkC {st:Stmt} {fin:Sd->D->M Out} {gt:FS} (hgt: ∀ sd h,gt sd h=match gb sd h with
      | .exc c h1=>if known.contains c=true then (do let d<-noX (Fk [.exn c]);fin sd d:M Out) h1 else .bad
      | r=>r)
  (z:zei X) (hN:X.N.Nodup) (hj:X.N[j]? = some en) (hen:X.env.scope.names.lookup en=some .local) (hg:Gl X ce) (hm:X.mg ce=some (.ref CE))
  (hkn: ∀ c∈known, ∀ C,zbk X.K c C->W.exmOne X.K (.ref C) (.ref CE)=some true) (hd:(ce==("__debug__":Str))=false)
  (hb: ∀ pn xe E',zcW (CXE X.prog X.w) (X.re pn xe) (zod X.K E')->SSs (X.re pn xe) E' body gb)
  (hst: ∀ (X':Cx) (pins:List (Addr×Obj)) (σ:L2.St) (H:Hp) (s:Shared) (a:Addr) (D0:zmk) (sd:Sd) (Q:Flow->Shared->Prop) (Ef:Value->Shared->Prop) (pn:List (Addr×Obj)) (xe:Value->Shared->Prop),X'=X.re pn xe->Inv X' pins (σ.set j (some (.ref a))) H s->sd.length=X.N.length->
    (∀ Qv:VK,(∀ d ι' H' h',zaN X.K ι' H' h'->Fin X.K E ι' H' (fin sd d h') (zh2 X.K D0)-> ∀ v,Rel X.K ι' H' d v->Qv v H')->
      wpAny (model X.prog X.w) (X.A.mark (some (.ref a))) (eval (.Call (.Name gk p1) [.Name en p2] [] p3) X.env) (fun u s8=> ∃ v H8,Inv X' pins (σ.set j (some (.ref a))) H8 s8/\zbg v u/\Qv v H8) (fun _ _=>False) s)->
    (∀ f s9,SP X' pins D0 f s9->Q f s9)->
    wpAny (model X.prog X.w) (X.A.mark (some (.ref a))) (execs [st] X.env) (fun f s4=>wpAny (model X.prog X.w) X.A (do bindName X.env en .none;unbindBehindTheSuite X.env en hp) (fun _ s5=>Q f s5) Ef s4) (fun _ _=>False) s)
  (FH:FnH X.prog X.w X.K X.mg X.base k fk fdk [pe] (zcx X.K 1 Fk)) (hbk:zaQ X.K fdk [pe] []) (hgk:Gl X gk) (hmk:X.mg gk=some (.ref fk)) (kp:W.keepIn X.K (.ref fk)=true) (hr:zcl k X.A) (hd2:(gk==("__debug__":Str))=false) (hd3:(en==("__debug__":Str))=false):
  SS X E (.Try body [.ExceptHandler (some (.Name ce pce)) (some en) [st] hp] [] [] pos) gt:=by
 intro pins s σ H D0 I ⟨ι,h,sd,L,hh,q⟩
 refine wpAny_Try_except ?_
 rw [hgt] at q
 let xe':Value->Shared->Prop:=fun e s₁=>wpAny (model X.prog X.w) X.A (noteFrame e X.env) (fun _ s₂=>wpAny (model X.prog X.w) X.A (setFlight e none) (fun _ s₃=>wpAny (model X.prog X.w) X.A (handleBy e X.env [.ExceptHandler (some (.Name ce pce)) (some en) [st] hp]) (SP X pins D0) X.xe s₃) X.xe s₂) X.xe s₁
 cases hres:gb sd h with
 | bad=>rw [hres] at q;exact qa0 q
 | ok o1 h1=>
  rw [hres] at q
  have run:=hb (X.pn++pins) xe'
   E0x (fun pins' σ' H1 s1 e s2 I1 hx=>by obtain ⟨a,C,H2,_,_,c,C',_,_,w⟩:=hx;exact w.elim) [] s σ H D0 (I.re _) ⟨ι,h,sd,L,hh,by rw [hres];exact q⟩
  refine qaZ run (fun f s1 hs=> ?_) fun _ _ w=>w
  have hs':=hs.unre
  cases f with
  | next=>exact wpAny_execs_nil hs'
  | ret u=>exact hs'
  | brk=>exact hs'
  | cont=>exact hs'
 | exc c h1=>
  rw [hres] at q
  by_cases hk:known.contains c=true
  ·simp only [hk,if_true] at q
   have run:=hb (X.pn++pins) xe'
    (fun c' H'=>c'=c/\ ∃ ι',zaW ι H ι' H'/\zaN X.K ι' H' h1) (fun pins' σ' H1 s1 e s2 I1 hx=>by
      obtain ⟨a,C,H2,rfl,y,c',C',e1,hc,rfl,ι',st1,hr1⟩:=hx
      cases e1
      have z':zei (X.re (X.pn++pins) xe'):=⟨z.stk,z.frm,z.ex⟩
      obtain ⟨f1,f2,f3⟩:=y.fresh
      refine Fl.caught (X:=X.re (X.pn++pins) xe') (b₀:=st) (suite:=[]) (pce:=pce) (pos:=hp) (Q:=SP X pins D0) (E:=X.xe) z' I1 y hN hj hen hg hm (hkn c' (by simpa using hk) C hc) (fun s6 I6 ⟨head,x6⟩=> ?_) hd
      obtain ⟨o,vs,ho,ob⟩:=x6
      have hnil: ∀ b,b∉X.ex:=fun b h=>by rw [z.ex] at h;cases h
      refine hst _ pins' σ' H2 s6 a D0 sd (SP X pins D0) X.xe _ _ rfl I6 (L.1.trans I.len) (fun Qv hQ=> ?_) fun f s9 w=>w.unre
      have hσ:(σ'.set j (some (V.ref a)))[j]? = some (some (.ref a)):=qai (by rw [I1.len];exact (qac.mp hj).1)
      refine zi2 (X:=X.re _ _) I6 f2 ho ob ?_ (fun w=> ?_) (fun x c e w=> ?_) (fun p hp w=> ?_) hj hσ hen FH hbk hgk hmk kp hr hc hr1 ?_ hd2 hd3
      · cases w:X.s₀.heap.get? a with
        | none=>exact w
        | some ob=>
          obtain ⟨o',e'⟩:=I1.base.there a ob w (hnil a)
          rw [f1] at e'
          cases e'
      · obtain ⟨m,⟨oL,_,_,hoL,_⟩,_⟩:=I1.loc
        have hoL:s1.heap.get? X.env.locals=some oL:=hoL
        rw [<- show a=X.env.locals from w,f1] at hoL
        cases hoL
      · obtain ⟨v,oc,hoc,_⟩:=I1.cell x c e
        rw [w,f1] at hoc
        cases hoc
      · have e:=(I1.pin p hp).1
        rw [w,f1] at e
        cases e
      · have q1:=Fin.step (st1.trans (hr1.laidS (o:= .frz o (.own 0)) f2)) q
        exact Fin.noX (Fin.bind q1 fun d h' ι8 H8 e8 s8 hr8 q8 v rv=>hQ d ι8 H8 h' hr8 q8 v rv))
    [] s σ H {nx:=fun _ _=>False,rt:=fun _ _=>False} (I.re _) ⟨ι,h,sd,L,hh,by rw [hres];exact fun ι' H' st1 hr1=>⟨rfl,ι',st1,hr1⟩⟩
   refine qaZ run (fun f s1 hs=> ?_) fun _ _ w=>w
   cases f with
   | next=>obtain ⟨_,_,_,w⟩:=hs;exact w.elim
   | brk=>obtain ⟨_,_,_,w⟩:=hs;exact w.elim
   | cont=>obtain ⟨_,_,_,w⟩:=hs;exact w.elim
   | ret u=>obtain ⟨_,_,_,_,_,w⟩:=hs;exact w.elim
  ·simp only [hk] at q
   exact qa0 q
theorem zop (z:zei X) (hN:X.N.Nodup) (hj:X.N[j]? = some en) (hen:X.env.scope.names.lookup en=some .local) (hg:Gl X ce) (hm:X.mg ce=some (.ref CE))
  (hkn: ∀ c∈known, ∀ C,zbk X.K c C->W.exmOne X.K (.ref C) (.ref CE)=some true)
  (hb: ∀ pn xe E',zcW (CXE X.prog X.w) (X.re pn xe) (zod X.K E')->SSs (X.re pn xe) E' body gb)
  (FH:FnH X.prog X.w X.K X.mg X.base k fk fdk [pe] (zcx X.K 1 Fk)) (hbk:zaQ X.K fdk [pe] []) (hgk:Gl X gk) (hmk:X.mg gk=some (.ref fk)) (kp:W.keepIn X.K (.ref fk)=true) (hr:zcl k X.A)
  (hd:(ce==("__debug__":Str))=false:=by decide) (hd2:(gk==("__debug__":Str))=false:=by decide) (hd3:(en==("__debug__":Str))=false:=by decide):
  SS X E (.Try body [.ExceptHandler (some (.Name ce pce)) (some en) [.Return (some (.Call (.Name gk p1) [.Name en p2] [] p3)) p4] hp] [] [] pos) (zgP known gb Fk):=by
 refine zkC (fin:=fun _ d=>pure (.rt d)) (p1:=p1) (p2:=p2) (p3:=p3) (fun sd h=>rfl) z hN hj hen hg hm hkn hd hb (fun X' pins σ H s a D0 sd Q Ef pn xe hX I6 hl ev hQ=> ?_) FH hbk hgk hmk kp hr hd2 hd3
 subst hX
 refine wpAny_execs_cons ?_
 refine wpAny_Return_some (qaZ (ev (fun v H'=>D0.rt v H') fun d ι' H' h' hr1 q v rv=>Fin.out hr1 q v rv) (fun u s8 hv=> ?_) fun _ _ w=>w)
 obtain ⟨v,H8,I8,rv,qv⟩:=hv
 exact zm8 (X:=X.re pn xe) I8 hN hj hen fun s9 I9=>hQ _ s9 ⟨v,_,H8,I9,rv,qv⟩
noncomputable def zha (c:String):FS:=fun _ h=> .exc c h
theorem zny {c:String} {C:Addr} {nid:String} {msg:Str} {jj:Nat} {np cpos:Pos} (hc:X.calm=true) (hp:znW X E) (hX:W.excIn X.K C zjP "ValueError.__new__"=true) (hcl:zbk X.K c C) (hg:Gl X (c:Str)) (hd:((c:Str)==("__debug__":Str))=false:=by decide):
  SS X E (.Raise (some (.Call (.Name (c:Str) np) [.Constant (.str msg) jj p2] [] cpos)) none pos) (zha c):=by
 intro pins s σ H D0 I ⟨ι,h,sd,L,hh,q⟩
 have hE:E c H:=q ι H (zaW.refl _ _) hh
 have hm:X.mg (c:Str)=some (.ref C):=W.mg_of I.ok.mod.kin I.ok.mod.glob hcl
 obtain ⟨tl,N,nm,qq,bs,hdct,sn,sub,ab,col,dd,k0,k1,k2,k3,k5,mN,hC,hNs,hni,T⟩:=(znb (x:=(c:Str)) I.ok.mod.kin hm hX).obj
 refine wpAny_Raise_call_subT (C:=C) (nm:=nm) (q:=qq) (N:=N) (bs:=bs) (bm:=tl) (hdct:=hdct) (sn:=sn) (sub:=sub) (ab:=ab) (col:=col) (dd:=dd) (k0:=k0) (k1:=k1) (k2:=k2) (k3:=k3) (k5:=k5)
  PySem.F.excBase_ValueError (mN:=mN) (T.hasType PySem.F.excBase_ValueError.hasBase) (I.ok.hd hc) rfl hni (zgy I hg hm ⟨rfl,?_⟩ hd)
 refine Calls.evalArgs_plain (x:=eval (.Constant (.str msg) jj p2) X.env) (rest:=[]) ?_
 refine Calls.spliced_cons (thn (zlV pins s σ H (fun v H1=>H1=H) I rfl) fun u s1 hu=> ?_)
 obtain ⟨v,H1,I1,rv,rfl⟩:=hu
 refine Calls.spliced_nil ⟨rfl,by show 1<=sizeLine;decide,I1.bk _ _ hC,hNs.keeps I1.bk,T.keeps I1.bk,fun h' e m=> ?_⟩
 exact hp pins σ H1 s1 h' e C c _ I1 hcl m hE
end
end L3
namespace L3
open PySem PySem.W
theorem zfI {K:Frag} {C:Addr} {name:Str} {a g:Value} (hc:(clsIn K C).isSome=true) (ha:findIn K (.ref C) name=some (some a)) (hg:specialIn K a "__get__"=some (some g)) (ht:takesIn K a=some true):findObj K C none name=some (.bind g a):=by
 obtain ⟨cd,hc⟩:=Option.isSome_iff_exists.mp hc
 unfold findObj
 rw [hc,Option.bind_some,ha,Option.bind_some]
 simp [hg,ht]
section
variable {prog:Program} {w:World} {A:Around} {E:Value->Shared->Prop} {s:Shared} {K:Frag} {x D:Addr} {ox:Obj}
theorem zjN {Q:Option Value->Shared->Prop} (X:K.In s.heap) (I:InstAt s.heap x ox D none) (hc:(clsIn K D).isSome=true) (hga:findIn K (.ref D) "__getattribute__"=some (some (.builtin "BaseException.__getattribute__"))) (hk:findIn K (.ref D) "__getattr__"=some none)
  (ha:findIn K (.ref D) "__class__"=some (some (.builtin "object.__class__"))) (hn:specialIn K (.builtin "object.__class__") "__get__"=some (some (.builtin "getset_descriptor.__get__"))) (htk:takesIn K (.builtin "object.__class__")=some true)
  (hm:mroIn K D (.type "object")=some true) (hmB:mroIn K D (.type "BaseException")=some true) (h:Q (some (.ref D)) {s with toks:=s.toks+1}):wpAny (model prog w) A (getAttr? (.ref x) "__class__") Q E s:=by
 obtain ⟨hh,g,d,t,os⟩:=s
 have L0:=I.type (M:=model prog w)
 have L1:=looks_findIn (M:=model prog w) X hga
 have L2:=looks_findIn (M:=model prog w) X hk
 have L3:=looks_find (M:=model prog w) X I (zfI hc ha hn htk)
 have LB:Looks (model prog w) hh (isInstance (.ref x) (.type "BaseException")) true:=L0.andThen (looks_mroIn X hmB)
 have f3:=PySem.F.attr_ValueError.ga.bind (.ref x)
 have hx2:(Value.builtin "BaseException.__getattribute__"==Value.builtin "object.__getattribute__")=false:=by decide +kernel
 unfold getAttr? getAttrBy? getAttrBy
 refine qaW (wpAny_mkText (qaW (wpAny_attempt (qaO (qaW (L0.at (qaW (L1.at ?_))))))))
 dsimp only
 rw [hx2,Bool.and_false,qa5 Bool.false_ne_true]
 unfold getAttrByItsOwn hookBefore
 rw [qa4 (show onTheHeap (Value.ref D)=true from rfl)]
 refine qaW (L2.at ?_)
 refine qaW (wpAny_attempt (qaO ?_))
 unfold callGetattribute
 rw [qa5 (by simp)]
 unfold boundAndCalled
 rw [f3]
 refine qaW (qaX ?_)
 refine wpAny_call (codeAny_call_builtin PySem.F.attr_ValueError.ga.plain PySem.F.entry_bexc_ga ?_)
 have kd:builtinKind "BaseException.__getattribute__"=some .slot:=by decide +kernel
 have sp:splitId "BaseException.__getattribute__"=some ("BaseException","__getattribute__"):=by decide +kernel
 have ag:=PySem.F.args_bexc_ga (.ref x) (.str "__class__" t)
 simp only [checkBuiltinCall,kd,sp]
 refine qaW (LB.at ?_)
 rw [qa5 (by decide)]
 refine wpAny_of_eq (a:=()) ag ?_
 unfold Builtin.«object.__getattribute__»
 refine qaW (qaX ?_)
 refine qaW (qaX ?_)
 refine qaW (L0.at ?_)
 refine qaW (L3.at ?_)
 dsimp only
 unfold Builtin.ObjectAttr.bindTo
 dsimp only
 refine qaW (qaO (wpAny_call (class_get (s:=⟨hh,g,d,t+1,os⟩) X I hm ?_)))
 refine qaX ?_
 dsimp only
 refine wpAny_of_eq (a:=Value.ref D) rfl ?_
 exact qaX h
end
end L3
namespace L3
open PySem PySem.Spec PyProof.Rows L2
noncomputable def kxb (K:W.Frag) (C:Addr):Bool:=(W.clsIn K C).isSome && W.findIn K (.ref C) "__getattribute__"==some (some (.builtin "BaseException.__getattribute__")) && W.findIn K (.ref C) "__getattr__"==some none && W.findIn K (.ref C) "__class__"==some (some (.builtin "object.__class__"))
 && W.specialIn K (.builtin "object.__class__") "__get__"==some (some (.builtin "getset_descriptor.__get__")) && W.takesIn K (.builtin "object.__class__")==some true && W.mroIn K C (.type "object")==some true && W.mroIn K C (.type "BaseException")==some true
theorem zkp {K:W.Frag} {x C:Addr} {ox:Obj} (h:kxb K C=true):W.KitX K (.ref x) (.ref C) (fun h=>W.InstAt h x ox C none):=by
 unfold kxb at h
 simp only [qaG,beq_iff_eq] at h
 obtain ⟨⟨⟨⟨⟨⟨⟨h1,h2⟩,h3⟩,h4⟩,h5⟩,h6⟩,h7⟩,h8⟩:=h
 refine ⟨fun _ _ _ I=>I.type,fun M hp X _=> ?_,fun hp tp dd its n sl X htp=> ?_,fun X I k=>zjN X I h1 h2 h3 h4 h5 h6 h7 h8 k⟩
 ·obtain ⟨cd,hc⟩:=Option.isSome_iff_exists.mp h1
  unfold W.clsIn at hc
  split at hc
  ·rename_i lk
   intro A' Q' E' s' k q
   unfold isType loadHead
   exact qaW (wpAny_loadPart (k _ _ (X _ _ lk)) (qaX q))
  ·cases hc
 ·refine Bool.eq_false_iff.mpr fun q=> ?_
  have e:C=tp:=Value.ref.inj (beq_iff_eq.mp q)
  subst e
  obtain ⟨cd,hc⟩:=Option.isSome_iff_exists.mp h1
  unfold W.clsIn at hc
  split at hc
  ·rename_i lk
   have z:=(X _ _ lk).symm.trans htp
   cases z
  ·cases hc
structure zrP (K:W.Frag) (CE:Addr) (names:List String) (c:String) (C:Addr):Prop where
 exc:W.excIn K C zjP "ValueError.__new__"=true
 cov:W.exmOne K (.ref C) (.ref CE)=some true
 kx:kxb K C=true
 ve:W.kitOne K (.ref C) (.type "ValueError")=some true
 one: ∀ c'∈names, ∀ C',zbk K c' C'->W.kitOne K (.ref C) (.ref C')=some (c==c')
def zkd (K:W.Frag) (CE:Addr) (names:List String):Prop:= ∀ c∈names, ∀ C,zbk K c C->zrP K CE names c C
noncomputable def zjc (K:W.Frag) (CE:Addr) (tab:List (String×Addr)):Bool:=tab.all fun p=>W.nsIn K mainGlobals (p.1:Str)==some (some (.ref p.2)) && W.excIn K p.2 zjP "ValueError.__new__" && W.exmOne K (.ref p.2) (.ref CE)==some true && kxb K p.2 && W.kitOne K (.ref p.2) (.type "ValueError")==some true
 && tab.all fun r=>W.kitOne K (.ref p.2) (.ref r.2)==some (p.1==r.1)
theorem zkd.of {K:W.Frag} {CE:Addr} {tab:List (String×Addr)} (h:zjc K CE tab=true):zkd K CE (tab.map (·.1)):=by
 unfold zjc at h
 rw [List.all_eq_true] at h
 have key: ∀ c∈tab.map (·.1), ∀ C,zbk K c C->(c,C)∈tab:=fun c hc C hC=>by
  obtain ⟨p,hp,rfl⟩:=qaU.mp hc
  have h1:=h p hp
  simp only [qaG,beq_iff_eq] at h1
  have e:=h1.1.1.1.1.1
  unfold zbk at hC
  rw [hC] at e
  cases e
  exact hp
 intro c hc C hC
 have h1:=h _ (key c hc C hC)
 simp only [qaG,beq_iff_eq,List.all_eq_true] at h1
 obtain ⟨⟨⟨⟨⟨a1,a2⟩,a3⟩,a4⟩,a5⟩,a6⟩:=h1
 exact ⟨a2,a3,a4,a5,fun c' hc' C' hC'=>a6 _ (key c' hc' C' hC')⟩
theorem zkd.known {K:W.Frag} {CE:Addr} {names:List String} (h:zkd K CE names): ∀ c∈names, ∀ C,zbk K c C->W.exmOne K (.ref C) (.ref CE)=some true:=fun c hc C hC=>(h c hc C hC).cov
noncomputable def zil (names:List String) (T:String):D->M D
 | .exn c=>if names.contains c && names.contains T then pure (.bl (c==T)) else M.bad
 | _=>M.bad
noncomputable def zpT (names:List String):D->M D
 | .exn c=>if names.contains c then pure (.bl true) else M.bad
 | _=>M.bad
section
variable {X:Cx} {E:XE}
theorem zhn:zax X (.builtin "isinstance") (fun xs H Q=> ∃ a o C vs x u b,xs=[.ref a,x]/\H a=some (.frz o (.own 0))/\(o.cls= .ref C/\o.dict=none/\o.data= .fields vs)/\kxb X.K C=true/\zbg x u/\(∀ u',zbg x u'->u'=u)/\W.kitOne X.K (.ref C) u=some b/\Q (.bl b) H):=by
 intro pins s σ H xs us Q I r h
 obtain ⟨a,o,C,vs,x,u,b,rfl,hH,⟨o1,o2,o3⟩,hk,hu,hu2,e,q⟩:=h
 cases r with
 | cons r1 r2=>
  cases r2 with
  | cons r3 r4=>
   cases r4
   cases r1
   have:=hu2 _ r3
   subst this
   have ho:=(I.hok a _ hH).1
   refine W.kia_one (zkp (x:=a) (ox:=o) hk) I.kIn ⟨ho,o1,by unfold W.notCls;rw [o3],by rw [o2];trivial⟩ e (fun z=>nomatch z) fun tk=>⟨.bl b,H,I.tok tk,rfl,q⟩
variable {a:Expr} {p1 p2 pos:Pos} {fa:FE} {CE CC:Addr} {names:List String}
theorem zdU {c':String} (hx:zkd X.K CE names) (hc':names.contains c'=true) (hcl:zbk X.K c' CC) (hm:X.mg "isinstance"=none) (hmC:X.mg (c':Str)=some (.ref CC)) (ha:SE X E a fa) (hg:Gl X "isinstance":=by rfl) (hgC:Gl X (c':Str):=by rfl)
  (hd:((c':Str)==("__debug__":Str))=false:=by decide)
  (h1:starEach [a,.Name (c':Str) p2] X.env=(false,eval a X.env)::starEach [.Name (c':Str) p2] X.env:=by rfl) (h2:starEach [.Name (c':Str) p2] X.env=[(false,eval (.Name (c':Str) p2) X.env)]:=by rfl)
  (hpl:(backTo pos (starEach [.Name (c':Str) p2] X.env)).any (·.1)=false:=by rfl):
  SE X E (.Call (.Name "isinstance" p1) [a,.Name (c':Str) p2] [] pos) (cUn (zil names c') fa):=by
 refine PE.imp (zc7 zhn hg hm PyProof.Rows.boot_isinstance (za2 ha (za2 (znU (v:= .ref CC) hgC hmC rfl hd) zcj h2) h1) (he:=h1) (hpl:=hpl)) fun σ H Q ⟨ι,h,sd,L,hh,q⟩=>⟨ι,h,sd,L,hh,Fin.bind q fun d h1 ι1 H1 e1 s1 hr1 q1 v rv=> ?_⟩
 cases d with
 | exn c=>
  obtain ⟨hg1,q2⟩:=Fin.guard (show Fin X.K E ι1 H1 ((if (names.contains c && names.contains c')=true then (pure (.bl (c==c')):M D) else M.bad) h1) _ from q1)
  rw [qaG] at hg1
  simp only [Rel] at rv
  obtain ⟨b,o,C,head,vs,rfl,⟨r1,_⟩,r2,r3,r4,r5,_⟩:=rv
  have ok:=hx c (by simpa using hg1.1) C r2
  exact ⟨b,o,C,vs,.ref CC,.ref CC,c==c',rfl,r1,⟨r3,r4,r5⟩,ok.kx,rfl,fun u' z=>z,ok.one c' (by simpa using hc') CC hcl,Fin.out hr1 q2 _ (by simp [Rel])⟩
 | _=>exact qa0 q1
theorem zqd (hx:zkd X.K CE names) (hm:X.mg "isinstance"=none) (hmT:X.mg "ValueError"=none) (ha:SE X E a fa) (hg:Gl X "isinstance":=by rfl) (hgT:Gl X "ValueError":=by rfl)
  (h1:starEach [a,.Name "ValueError" p2] X.env=(false,eval a X.env)::starEach [.Name "ValueError" p2] X.env:=by rfl) (h2:starEach [.Name "ValueError" p2] X.env=[(false,eval (.Name "ValueError" p2) X.env)]:=by rfl)
  (hpl:(backTo pos (starEach [.Name "ValueError" p2] X.env)).any (·.1)=false:=by rfl):
  SE X E (.Call (.Name "isinstance" p1) [a,.Name "ValueError" p2] [] pos) (cUn (zpT names) fa):=by
 refine PE.imp (zc7 zhn hg hm PyProof.Rows.boot_isinstance (za2 ha (za2 (zjL (v:= .ty "ValueError") hgT hmT (by decide +kernel) rfl) zcj h2) h1) (he:=h1) (hpl:=hpl)) fun σ H Q ⟨ι,h,sd,L,hh,q⟩=>⟨ι,h,sd,L,hh,Fin.bind q fun d h1 ι1 H1 e1 s1 hr1 q1 v rv=> ?_⟩
 cases d with
 | exn c=>
  obtain ⟨hg1,q2⟩:=Fin.guard (show Fin X.K E ι1 H1 ((if names.contains c=true then (pure (.bl true):M D) else M.bad) h1) _ from q1)
  simp only [Rel] at rv
  obtain ⟨b,o,C,head,vs,rfl,⟨r1,_⟩,r2,r3,r4,r5,_⟩:=rv
  have ok:=hx c (by simpa using hg1) C r2
  exact ⟨b,o,C,vs,.ty "ValueError",.type "ValueError",true,rfl,r1,⟨r3,r4,r5⟩,ok.kx,rfl,fun u' z=>z,ok.ve,Fin.out hr1 q2 _ (by simp [Rel])⟩
 | _=>exact qa0 q1
end
end L3
namespace L3
open PySem
section
variable {prog:Program} {w:World} {A:Around} {E:Value->Shared->Prop} {s:Shared}
theorem zlh {l:Addr} {xs:Array (Int×Tok)} {Q:Value->Shared->Prop} (hh:zkX A s.heap) (hl:s.heap.IsList l (intItems xs))
  (k: ∀ h' tk t',(∀ b o,s.heap.get? b=some o->h'.get? b=some o)->Q (.int (preSum (numAt xs) xs.size) t') {s with heap:=h',toks:=tk}):wpAny (model prog w) A (call (.builtin "sum") [.ref l]) Q E s:=by
 refine call_sum_walkG (iter_intList hl fun s₂ e st hfp hlI=> ?_)
 subst e
 rcases hh with hh | ⟨ha,cls,head,hh,hX⟩
 ·refine ⟨_,_,_,_,_,_,numAt xs,rfl,Walks.list (A:=A.in1) hh _ l hlI (intItems xs),st,hfp,(fun _ _=>intItems_at),fun h' tk t' hk=> ?_⟩
  simpa [intItems] using k h' tk t' (old_kept hk)
 ·obtain ⟨ob,vs,x1,x2⟩:=id hX
  have hX2:=hX.keep (h':=s.heap.push {cls:= .type "list_iterator",data:= .fields #[.ref l,.int 0 0]}) fun o e=>qag _ e
  refine ⟨_,_,_,_,_,_,numAt xs,rfl,zic (A:=A.in1) (ha:=ha) (cls:=cls) (head:=head) hh _ l hlI (qaR (qaQ x1)) (intItems xs),⟨st.1,st.2,hX2⟩,fun b hb=> ?_,(fun _ _=>intItems_at),fun h' tk t' hk=> ?_⟩
  ·simp only [qaP,qaF,or_false] at hb
   rcases hb with z | z | z
   ·exact hfp b (by simp [z])
   ·exact hfp b (by simp [z])
   ·rw [z]
    show ha<(s.heap.push _).objs.size
    rw [qaL]
    exact Nat.lt_succ_of_lt (qaQ x1)
  ·simpa [intItems] using k h' tk t' (old_kept hk)
end
end L3
namespace L2
open PySem PySem.Spec PyProof.Rows L3
section
variable {X:Cx}
theorem zii:MtM X "list.extend" (fun x vs H Q=> ∃ l b xs zs,x= .ref l/\vs=[.ref b]/\H l=some (.lst xs)/\SqT X.K H b zs/\xs.length+zs.length<=sizeLine/\Q .non (upd H l (.lst (xs++zs)))):=by
 intro pins s σ H x vs v us Q I rx rv h
 obtain ⟨l,b,xs,zs,rfl,rfl,hH,hB,hz,q⟩:=h
 cases rx
 obtain ⟨u,rfl,ru⟩:=zcS rv
 cases ru
 obtain ⟨z,its,n,r,hl,e⟩:=I.lstM hH
 obtain ⟨its2,r2,⟨ob,e2,c2,n2,d2⟩,z2⟩:=I.tuple hB
 have l2:=r2.length
 have hsz:its.toArray.size+its2.toArray.size<=sizeLine:=by rw [qaA,qaA];omega
 refine wpAny_call (codeAny_call_builtin F.slot_list_extend.plain F.entry_list_extend (F.slot_list_extend.check _ _ _ _ _ _ _ _ ⟨_,e,rfl⟩ (F.args_list_extend_2 _ _) ?_))
 unfold Builtin.«list.extend»
 refine qaW (qaX ?_)
 unfold Builtin.List.listExtendWith
 refine qaW (wpAny_typeOf ⟨ob,e2,c2⟩ ?_)
 have h1:(Builtin.List.listSameRef (.ref l) (.ref b) || Value.type "tuple"==Value.type "list" || Value.type "tuple"==Value.type "tuple")=true:=by simp
 simp only [h1,if_true]
 unfold Builtin.List.listItems
 refine qaW (qaW (wpAny_seqItems e2 d2 (qaX ?_)))
 refine qaW (qaW (wpAny_seqItems e rfl (qaX ?_)))
 rw [qa5 (by rw [zkB hsz,Bool.and_false];exact Bool.false_ne_true)]
 refine qaW (wpAny_updateSeq e rfl ?_ (by rw [qaA];omega))
 refine qaX ?_
 refine ⟨.non,_,I.lset (its':=its++its2) hH e (by simp) (r.append r2) ?_,rfl,q⟩
 rw [qav]
 omega
theorem zjC:zax X (.builtin "sum") (fun xs H Q=> ∃ (a:Addr) (ns:List Int),xs=[.ref a]/\SqL X.K H a (ns.map V.int)/\Q (.int ns.sum) H):=by
 intro pins s σ H xs us Q I r h
 obtain ⟨a,ns,rfl,hq,q⟩:=h
 obtain ⟨u,rfl,rx⟩:=zcS r
 cases rx
 obtain ⟨its,r',pl,hz⟩:=I.list hq
 have hi:=zbd r'
 obtain ⟨ys,hy⟩:=hi.allInts.items
 have hl:s.heap.IsList a (intItems ys):=hy▸pl.isList
 refine zlh I.hand hl fun h' tk t' hk=> ?_
 have e1:ns=ys.toList.map (·.1):=by
  rw [<- nums_intItems, <-hy]
  exact (show numsOf its.toArray.toList=ns from hi.numsOf).symm
 have e2:preSum (numAt ys) ys.size=ns.sum:=by rw [preSum_eq,List.take_of_length_le (by simp),e1]
 rw [e2]
 exact ⟨.int ns.sum,H,I.grown (s':={s with heap:=h',toks:=tk}) rfl rfl hk,⟨t',rfl⟩,q⟩
theorem zeH: ∀ {bs:List Bool} {its:List Value},zaI (bs.map V.bl) its->its=bs.map Value.bool
 | [],_,h=>by cases h;rfl
 | b::bs,_,h=>by
  cases h with
  | cons r t=>cases r;rw [zeH t];rfl
theorem zjm:MtR X "list.index" (fun x vs H Q=> ∃ (l:Addr) (bs:List Bool) (j:Nat),x= .ref l/\vs=[.bl true]/\SqL X.K H l (bs.map V.bl)/\bs[j]? = some true/\(∀ m,m<j->bs[m]? = some false)/\Q (.int (j:Int)) H):=by
 intro pins s σ H x vs v us Q I rx rv h
 obtain ⟨l,bs,j,rfl,rfl,hq,hj,hno,q⟩:=h
 cases rx
 obtain ⟨u,rfl,ru⟩:=zcS rv
 cases ru
 obtain ⟨its,r,pl,hz⟩:=I.list hq
 have eit:=zeH r
 subst eit
 obtain ⟨ob,e1,c1,n1,d1⟩:=pl.isList
 obtain ⟨cc,dd,dt,sl⟩:=ob
 dsimp only at c1 d1
 subst c1 d1
 have hlt:j<bs.length:=(qac.mp hj).1
 rw [qaH] at hz
 have sz:(j:Int)<2^63 - 1:=by
  have:sizeLine<2^40:=by decide
  omega
 refine call_meets F.slot_list_index ⟨_,e1,rfl⟩ F.entry_list_index (F.args_list_index_2 _ _)
  (PySem.SeqAt.list_indexAt l _ n1 dd sl (.bool true) (fun v=>match v with | .bool b=>b | _=>false) j (by simpa using hlt) sz ?_ ?_) ⟨e1,fun y hy=> ?_,⟨.int j,H,I.tok _,⟨_,rfl⟩,q⟩⟩
 ·have:=(qac.mp hj).2
  simp [this]
 ·intro m hm hmj
  have:=(qac.mp (hno m hmj)).2
  simp [this]
 ·obtain ⟨b,_,rfl⟩:=qaU.mp (List.mem_toArray.mp hy)
  have:=PySem.SeqAt.EqAt.bool_bool (A:=X.A.in1) (s:=s) b true
  simpa using this
end
end L2
namespace L3
open PySem PySem.Spec PyProof.Rows L2
noncomputable def zsi (f:FE):FE:=fun sd=>noX (f sd)
noncomputable def zsh (f:FS):FS:=fun sd=>noX (f sd)
section
variable {X:Cx} {E:XE} {a e o:Expr} {es:List Expr} {pos p cpos apos:Pos} {f fo fe fa:FE} {fs:FA} {x:Str}
theorem zjr {k:Nat} {g:Addr} {fd:FuncData} {ps:List Str} {n:Nat} {F:List D->M D} (G:zbZ X.prog X.w X.K X.mg X.base (CXE X.prog X.w) k g fd ps (spE X.K n F)) (hx:zcW (CXE X.prog X.w) X (zod X.K E)) (hr:zcD k X.A) (hm:X.mg x=some (.ref g)) (hk:W.keepIn X.K (.ref g)=true) (hb:zaQ X.K fd ps [])
  (ha:SA X E (e::es) fs) (hg:Gl X x:=by rfl) (hdb:(x==("__debug__":Str))=false:=by decide) (he:starEach (e::es) X.env=(false,eval e X.env)::starEach es X.env:=by rfl) (hpl:(backTo pos (starEach es X.env)).any (·.1)=false:=by rfl):
  SE X E (.Call (.Name x p) (e::es) [] pos) (zaX (zaF n F) fs):=zlo G hx hr hg hm hk hb ha hdb he hpl
theorem zjv {k:Nat} {g:Addr} {fd:FuncData} {ps:List Str} {n:Nat} {F:List D->M D} (G:zbZ X.prog X.w X.K X.mg X.base CX0 k g fd ps (zcx X.K n F)) (hr:zcD k X.A) (hm:X.mg x=some (.ref g)) (hk:W.keepIn X.K (.ref g)=true) (hb:zaQ X.K fd ps [])
  (ha:SA X E (e::es) fs) (hg:Gl X x:=by rfl) (hdb:(x==("__debug__":Str))=false:=by decide) (he:starEach (e::es) X.env=(false,eval e X.env)::starEach es X.env:=by rfl) (hpl:(backTo pos (starEach es X.env)).any (·.1)=false:=by rfl):
  SE X E (.Call (.Name x p) (e::es) [] pos) (zaX (zaF n fun ds=>noX (F ds)) fs):=zlf G hr hg hm hk hb ha hdb he hpl
theorem znS {c:String} {C CE:Addr} {names:List String} {msg:Str} {jj:Nat} {np p2:Pos} (hc:X.calm=true) (hp:znW X E) (hX:zkd X.K CE names) (hn:names.contains c=true) (hcl:zbk X.K c C) (hg:Gl X (c:Str):=by rfl) (hd:((c:Str)==("__debug__":Str))=false:=by decide):
  SS X E (.Raise (some (.Call (.Name (c:Str) np) [.Constant (.str msg) jj p2] [] cpos)) none pos) (zha c):=zny (nid:="") hc hp (hX c (by simpa using hn) C hcl).exc hcl hg hd
theorem zmU {scope:Scope} {N:List Str} {src:List (Option Nat)} {tg iter elt:Expr} {ifs:List Expr} {fi:FA} {g:D->Sd->M Sd} {tc:FT} {te:FE} (B:BOk X scope N src) (hk:zat g src) (hi:SI X E tg iter fi)
  (hg: ∀ s H fp,SG (cxB X scope N s H fp) E tg g) (ht: ∀ s H fp,SCs (cxB X scope N s H fp) E ifs tc) (he: ∀ s H fp,SE (cxB X scope N s H fp) E elt te)
  (hs: ∀ x,foldedSetIterable iter X.env x=pure x:=by intro _;rfl):SE X E (.ListComp elt [⟨tg,iter,ifs,0⟩] scope pos) (zaG fi g tc te src):=zix B hk hi hg ht he hs
noncomputable def zns:List D->M D
 | [.int i]=>pure (.int i)
 | [.bl b]=>pure (.int (if b then 1 else 0))
 | _=>M.bad
theorem zh6:zax X (.type "int") (zgO X.K E zns):=by
 refine zax.imp ziI fun xs H Q ⟨ι,h,ds,rl,hr,q⟩=> ?_
 unfold zns at q
 split at q
 ·simp only [zal,Rel] at rl
  obtain ⟨v,r,rfl,rfl,rfl⟩:=rl
  exact .inl ⟨_,rfl,Fin.out hr q _ (by simp [Rel])⟩
 ·simp only [zal,Rel] at rl
  obtain ⟨v,r,rfl,rfl,rfl⟩:=rl
  exact .inr ⟨_,rfl,Fin.out hr q _ (by simp [Rel])⟩
 ·exact qa0 q
theorem zid:zax X (.builtin "sum") (zgO X.K E zpP):=by
 refine zax.imp zjC fun xs H Q ⟨ι,h,ds,rl,hr,q⟩=> ?_
 obtain ⟨d,v,e,r,q⟩:=zcc rl q
 cases d with
 | lst ds=>
  obtain ⟨a,vs,e',h1,h2⟩:=zc5 r
  obtain ⟨ns,en,q⟩:=Fin.ofOb q
  have:=zb1 h2 en
  subst this
  exact ⟨a,ns,by rw [e,e'],h1,Fin.out hr q _ (by simp [Rel])⟩
 | _=>exact qa0 q
noncomputable def zpz:D->M D
 | .lst ds=>do
  let bs<-ofO (zlk ds)
  let j<-ofO (bs.findIdx? id)
  pure (.int j)
 | _=>M.bad
theorem zn5 {jj:Nat} {p2:Pos} (ho:SE X E o fo)
  (hbase:attributeBase o "index" X.env (eval o X.env)=eval o X.env:=by rfl)
  (hfew:((backTo cpos (starEach [.Constant (.bool true) jj p2] X.env)).all (fun x=> !x.1) && (backToKw cpos (keywordEach [] X.env)).all (fun x=>x.1.isSome)
    && decide (([.Constant (.bool true) jj p2]:List Expr).length+([]:List Keyword).length+(if ([]:List Keyword).isEmpty then 0 else 1)<30))=true:=by rfl)
  (hline:(apos.endLine==cpos.line)=true:=by rfl) (hs:starEach [.Constant (.bool true) jj p2] X.env=(false,eval (.Constant (.bool true) jj p2) X.env)::starEach [] X.env:=by rfl) (hplain:(backTo cpos (starEach [] X.env)).any (·.1)=false:=by rfl):
  SE X E (.Call (.Attribute o "index" apos) [.Constant (.bool true) jj p2] [] cpos) (cUn zpz fo):=by
 refine PE.imp (zmS PySem.F.plainAttrs_list PySem.F.slot_list_index PySem.F.type_list_index zjm ho (za2 zo9 zcj hs) hbase hfew hline hs hplain) fun σ H Q ⟨ι,h,sd,L,hh,q⟩=>⟨ι,h,sd,L,hh,Fin.bind q fun d h1 ι1 H1 e1 s1 hr1 q1 v rv=> ?_⟩
 cases d with
 | lst ds=>
  obtain ⟨a,vs,e',h1',h2⟩:=zc5 rv
  obtain ⟨bs,en,q2⟩:=Fin.ofOb q1
  obtain ⟨j,ej,q3⟩:=Fin.ofOb q2
  have:=ze6 h2 en
  subst this
  subst e'
  refine ⟨.inl ⟨rfl,_,h1'⟩,a,bs,j,rfl,rfl,h1',?_,fun m hm=> ?_,Fin.out hr1 q3 _ (by simp [Rel])⟩
  ·obtain ⟨h3,h4,_⟩:=List.findIdx?_eq_some_iff_getElem.mp ej
   rw [qaf h3]
   simpa using h4
  ·obtain ⟨h3,h4,h5⟩:=List.findIdx?_eq_some_iff_getElem.mp ej
   rw [qaf (by omega)]
   simpa using h5 m hm
 | _=>exact qa0 q1
noncomputable def zcG (x y:D):M D:=match x,y with
 | .cel n,.tup zs=>do
  let ds<-zag n
  fits (ds.length+zs.length)
  zbc n (ds++zs)
  pure .non
 | _,_=>M.bad
noncomputable def zgQ (fo fe:FE):FE:=fun sd=>do
 let x<-fo sd
 zdB x
 let y<-fe sd
 zcG x y
theorem zlu (ho:SE X E o fo) (he:SE X E e fe)
  (hbase:attributeBase o "extend" X.env (eval o X.env)=eval o X.env:=by rfl)
  (hfew:((backTo cpos (starEach [e] X.env)).all (fun x=> !x.1) && (backToKw cpos (keywordEach [] X.env)).all (fun x=>x.1.isSome)
    && decide (([e]:List Expr).length+([]:List Keyword).length+(if ([]:List Keyword).isEmpty then 0 else 1)<30))=true:=by rfl)
  (hline:(apos.endLine==cpos.line)=true:=by rfl) (hs:starEach [e] X.env=(false,eval e X.env)::starEach [] X.env:=by rfl) (hplain:(backTo cpos (starEach [] X.env)).any (·.1)=false:=by rfl):
  SE X E (.Call (.Attribute o "extend" apos) [e] [] cpos) (zgQ fo fe):=by
 refine PE.imp (zmS PySem.F.plainAttrs_list PySem.F.slot_list_extend PySem.F.type_list_extend zii ho (za2 he zcj hs) hbase hfew hline hs hplain) fun σ H Q ⟨ι,h,sd,L,hh,q⟩=>⟨ι,h,sd,L,hh,Fin.bind q fun d h1 ι1 H1 e1 s1 hr1 q1 v rv=> ?_⟩
 cases d with
 | cel n=>
  have q2:Fin X.K E ι1 H1 ((zag n>>=fun _=>fe sd>>=fun y=>zcG (.cel n) y) h1) (fun d ι' H'=> ∀ v,Rel X.K ι' H' d v->Q v H'):=by
   have ee:(zdB (.cel n)>>=fun _=>fe sd>>=fun y=>zcG (.cel n) y:M D)=(zag n>>=fun _=>fe sd>>=fun y=>zcG (.cel n) y):=by
    show ((zag n>>=fun _=>pure ())>>=fun _=>fe sd>>=fun y=>zcG (.cel n) y)=_
    simp only [bind_assoc,pure_bind]
   rw [<- ee]
   exact q1
  obtain ⟨ds,e2,q3⟩:=ze9 q2
  obtain ⟨a,vs,rfl,hn,hH,rl⟩:=hr1.read rv e2
  refine ⟨.inl ⟨rfl,vs,SqL.of hH⟩,ι1,h1,sd,L.step s1,hr1,Fin.bind q3 fun y h3 ι3 H3 e3 s3 hr3 q4 w rw'=> ?_⟩
  have rv3:=rv.step s3
  cases y with
  | tup zs=>
   have q5:Fin X.K E ι3 H3 ((zag n>>=fun ds=>fits (ds.length+zs.length)>>=fun _=>zbc n (ds++zs)>>=fun _=>pure D.non) h3) (fun d ι' H'=> ∀ v,Rel X.K ι' H' d v->Q v H'):=q4
   obtain ⟨ds3,e4,q6⟩:=ze9 q5
   obtain ⟨a3,vs3,ea,hn3,hH3,rl3⟩:=hr3.read rv3 e4
   cases ea
   obtain ⟨b,ws,eb,hb,rlb⟩:=zck rw'
   obtain ⟨z,q7⟩:=Fin.fits q6
   refine ⟨a,b,vs3,ws,rfl,by rw [eb],hH3,hb,by rw [<- rl3.length, <-rlb.length];exact z,?_⟩
   have q8:Fin X.K E ι3 H3 (R.ok D.non (h3.set n (.lst (ds3++zs)))) (fun d ι' H'=> ∀ v,Rel X.K ι' H' d v->Q v H'):=q7
   exact q8 ι3 _ (hr3.cellS hn3) (hr3.cell hn3 (rl3.append rlb)) _ (by simp [Rel])
  | _=>exact qa0 q4
 | _=>exact qa0 q1
end
section
variable {P:Program} {w:World} {K:W.Frag} {mg:Str->Option Value} {base:Heap}
theorem zoG {x qual:Str} {st:Stmt} {f:Addr} {fd:FuncData} {N ps:List Str} {k:Nat} {G:Sd->M Out} (F:Fun K x qual st f fd) (S:zar N ps (zaf st))
  (hb: ∀ (cdv:Value) (A:Around) (outer:List Env) (s:Shared) (H:Hp),zcl k (A.deeper (envOfC qual (zaf st) s.heap.objs.size f cdv))->SSs ({zgj CX0 P w K mg base N qual (zaf st) f cdv A outer s H E0 with calm:=false}:Cx).nox E0x (zbW st) G):
  FnH P w K mg base (k+1) f fd ps (zcx K ps.length (zeo N.length G)):=by
 obtain ⟨oc,od,kV,doc,pm,an,cdv,ct,osl,rfl,lk,hcd⟩:=F.ex
 refine zow lk hcd S (fun vs H Q E h=>h.1) fun A outer s H vs Q hr ⟨hl,ι,h,ds,rl,hh,q⟩=>⟨_,hb cdv A outer s H hr,ι,h,zeB N.length ds,zdj rl,hh,?_⟩
 refine Fin.bind q fun o h1 ι1 H1 e1 s1 hr1 q1=> ?_
 cases o with
 | nx sd=>exact fun σ' _=>Fin.out hr1 q1 _ (by simp [Rel])
 | rt d=>exact fun v rv=>Fin.out hr1 q1 v rv
 | bk sd=>exact qa0 q1
 | ct sd=>exact qa0 q1
end
section
variable {X:Cx} {E:XE} {body:List Stmt} {ce en gk pe x:Str} {pce p1 p2 p3 p4 p5 hp pos:Pos} {CE fk:Addr} {fdk:FuncData} {Fk:List D->M D} {gb:FS} {k:Nat} {known:List String}
theorem zoA (j:Nat) (z:zei X) (hN:X.N.Nodup) (hm:X.mg ce=some (.ref CE)) (hkn:zkd X.K CE known)
  (FH:FnH X.prog X.w X.K X.mg X.base k fk fdk [pe] (zcx X.K 1 Fk)) (hbk:zaQ X.K fdk [pe] []) (hmk:X.mg gk=some (.ref fk)) (kp:W.keepIn X.K (.ref fk)=true) (hr:zcl k X.A)
  (hb: ∀ pn xe E',zcW (CXE X.prog X.w) (X.re pn xe) (zod X.K E')->SSs (X.re pn xe) E' body gb)
  (hj:X.N[j]? = some en:=by rfl) (hen:X.env.scope.names.lookup en=some .local:=by rfl) (hg:Gl X ce:=by rfl) (hgk:Gl X gk:=by rfl)
  (hd:(ce==("__debug__":Str))=false:=by decide) (hd2:(gk==("__debug__":Str))=false:=by decide) (hd3:(en==("__debug__":Str))=false:=by decide):
  SS X E (.Try body [.ExceptHandler (some (.Name ce pce)) (some en) [.Return (some (.Call (.Name gk p1) [.Name en p2] [] p3)) p4] hp] [] [] pos) (zgP known gb Fk):=zop z hN hj hen hg hm hkn.known hb FH hbk hgk hmk kp hr hd hd2 hd3
end
noncomputable def zpM (Fs:List (List D->M D)) (i:D):M (List D->M D):=match i with
 | .int j=>(match ixN Fs.length j with
   | some m=>ofO Fs[m]?
   | none=>M.bad)
 | _=>M.bad
noncomputable def zqu (n:Nat) (Fs:List (List D->M D)) (fi:FE) (fs:FA):FE:=fun sd=>do
 let i<-fi sd
 let F<-zpM Fs i
 let ds<-fs sd
 zaF n F ds
structure Fns (X:Cx) (n:Nat) (addrs:List Addr) (Fs:List (List D->M D)):Prop where
 len:Fs.length=addrs.length
 ok: ∀ (m:Nat) (F:List D->M D) (a:Addr),Fs[m]? = some F->addrs[m]? = some a-> ∃ k fd ps,zbZ X.prog X.w X.K X.mg X.base (CXE X.prog X.w) k a fd ps (spE X.K n F)/\zcD k X.A/\W.keepIn X.K (.ref a)=true/\zaQ X.K fd ps []
theorem Fns.nil {X:Cx} {n:Nat}:Fns X n [] []:=⟨rfl,fun m F a h=>by simp at h⟩
theorem Fns.cons {X:Cx} {n k:Nat} {a:Addr} {F:List D->M D} {addrs:List Addr} {Fs:List (List D->M D)} {fd:FuncData} {ps:List Str} (G:zbZ X.prog X.w X.K X.mg X.base (CXE X.prog X.w) k a fd ps (spE X.K n F)) (hr:zcD k X.A) (hk:W.keepIn X.K (.ref a)=true) (hb:zaQ X.K fd ps []) (h:Fns X n addrs Fs):Fns X n (a::addrs) (F::Fs):=by
 refine ⟨by simp [h.len],fun m F' a' h1 h2=> ?_⟩
 cases m with
 | zero=>simp at h1 h2;subst h1 h2;exact ⟨k,fd,ps,G,hr,hk,hb⟩
 | succ m=>simp at h1 h2;exact h.ok m F' a' h1 h2
section
variable {X:Cx} {E:XE} {e ix:Expr} {es fes:List Expr} {pos p q3 q4:Pos} {fi:FE} {fs:FA} {x:Str}
end
end L3
namespace L2
open PySem PySem.Spec PyProof.Rows
section
variable {X:Cx} {tg:Expr}
theorem zfR (hc:X.calm=true):zax X (.type "list") (fun xs H Q=> ∃ (p:Addr) (j:Int),xs=[.ref p]/\H p=some (.rng 0 j)/\0<=j/\j<1000/\ ∀ l,H l=none->Q (.ref l) (upd H l (.lst (((List.range j.toNat).map fun (k:Nat)=>(k:Int)).map V.int)))):=by
 intro pins s σ H xs us Q I r h
 obtain ⟨p,j,rfl,hp,h0,h1,q⟩:=h
 obtain ⟨u,rfl,rx⟩:=zcS r
 cases rx
 obtain ⟨t,u',v,hr⟩:=(show zbp X.prog X.w H s.heap p (.rng 0 j) from I.hok p _ hp)
 refine call_list_range (I.ok.hd hc) hr (small_one (by omega) (by omega) (by omega) (by omega)) (zlB h0) (by omega) fun h' tk acc c' hk hS hacc=> ?_
 have hl:acc.toList.length=j.toNat:=by rw [qas];exact hacc.1
 have I2:=I.laid (t':=tk) (h':=h') (a:=s.heap.objs.size) (o:= .lst (((List.range j.toNat).map fun (k:Nat)=>(k:Int)).map V.int)) hk (qaV _)
  (show zbp X.prog X.w _ h' _ (.lst _) from ⟨by rw [qaH,qaH,List.length_range];exact qaS (show j.toNat<=1000 by omega) (by decide),acc.toList,c',zd0 _ _ (by rw [qaH,List.length_range,hl]) (fun k w e=> ?_),by simpa using hS⟩)
 ·exact ⟨.ref s.heap.objs.size,_,I2,rfl,q _ (I.hok.fresh (qaV _))⟩
 ·have hk':k<j.toNat:=by rw [<- hl];exact (qac.mp e).1
  obtain ⟨t,et⟩:=hacc.2 k w (by simpa using e)
  refine ⟨t,?_⟩
  rw [et]
  simp [hk']
end
end L2
namespace L3
open PySem PySem.Spec PyProof.Rows L2
section
variable {X:Cx} {E:XE} {e o:Expr} {f fo fe:FE} {pos apos cpos:Pos}
noncomputable def zfk:D->M D
 | .int j=>if 0<=j/\j<1000 then pure (.lst (zcM 0 j.toNat)) else M.bad
 | _=>M.bad
theorem zjM {p1 p2 pos pos2:Pos} (hc:X.calm=true) (hm1:X.mg "list"=none) (hm2:X.mg "range"=none) (he:SE X E e f) (hg1:Gl X "list":=by rfl) (hg2:Gl X "range":=by rfl)
  (h1:starEach [.Call (.Name "range" p2) [e] [] pos2] X.env=[(false,eval (.Call (.Name "range" p2) [e] [] pos2) X.env)]:=by rfl) (h2:starEach [e] X.env=[(false,eval e X.env)]:=by rfl):
  SE X E (.Call (.Name "list" p1) [.Call (.Name "range" p2) [e] [] pos2] [] pos) (cUn zfk f):=by
 refine PE.imp (zdb (zfR hc) hg1 hm1 PyProof.Rows.boot_list (za2 (zdb zgs hg2 hm2 boot_range (za2 he zcj h2) (he:=h2)) zcj h1) (he:=h1)) fun σ H Q ⟨ι,h,sd,L,hh,q⟩=>⟨ι,h,sd,L,hh,Fin.bind q fun d h1 ι1 H1 e1 s1 hr1 q1 v rv=> ?_⟩
 cases d with
 | int j=>
  simp only [Rel] at rv
  obtain ⟨⟨c1,c2⟩,q2⟩:=Fin.guard q1
  refine ⟨j,by rw [rv],fun p hp=> ?_⟩
  have hr2:zaN X.K ι1 (upd H1 p (.rng 0 j)) h1:=hr1.laid hp
  exact ⟨p,j,rfl,zau,c1,c2,fun l hl=>znH hr2 zkN (Fin.step (hr1.laidS hp) q2) hl⟩
 | _=>exact qa0 q1
theorem zal.eraseIdx {K:W.Frag} {ι:Io} {H:Hp}: ∀ {ds:List D} {vs:List V} (i:Nat),zal K ι H ds vs->zal K ι H (ds.eraseIdx i) (vs.eraseIdx i)
 | [],vs,i,h=>by
  simp only [zal] at h
  subst h
  simpa using zal.nil
 | x::r,vs,i,h=>by
  simp only [zal] at h
  obtain ⟨v,vs',rfl,rv,rl⟩:=h
  cases i with
  | zero=>simpa using rl
  | succ i=>exact zal.cons rv (zal.eraseIdx i rl)
end
end L3
namespace L3
open PySem
open Sem (wp)
open AutoSeq1 (wpAny_loadPart')
section
variable {prog:Program} {w:World} {A:Around} {E:Value->Shared->Prop} {s:Shared}
end
noncomputable def zlR (A:Around):List Addr:=match A.handled with
 | some (.ref a)=>[a]
 | _=>[]
theorem zkX.keep {A:Around} {h h':Heap} (x:zkX A h) (k: ∀ b∈zlR A, ∀ o,h.get? b=some o->h'.get? b=some o):zkX A h':=by
 rcases x with x | ⟨a,cls,head,x1,ob,vs,x2,x3⟩
 ·exact .inl x
 ·exact .inr ⟨a,cls,head,x1,ob,vs,k a (by unfold zlR;rw [x1];simp) _ x2,x3⟩
end L3
namespace L3
open PySem
section
variable {prog:Program} {w:World} {A:Around} {E:Value->Shared->Prop} {s:Shared}
end
end L3
namespace L2
open PySem PySem.Spec PyProof.Rows
section
variable {X:Cx} {pins:List (Addr×Obj)} {σ:St} {H:Hp} {s:Shared} {h':Heap}
end
section
variable {X:Cx} {elts:List Expr} {k:Nat} {tpos:Pos}
end
end L2
namespace L3
open PySem PySem.Spec PyProof.Rows L2
section
variable {X:Cx} {E:XE} {elts:List Expr} {k:Nat} {tpos pos:Pos}
end
end L3
namespace L3
open PySem PyProof.Rows
theorem zg8: ∀ xs:List Int,HT.zci xs xs=false
 | []=>rfl
 | x::r=>by rw [HT.zbs,qa4 rfl,zg8 r]
section
open PySem.SeqAt
open PySem.AutoSeq1 (wpAny_loadPart')
open PySem.MeetsSeq PySem.MeetsSeq2 PySem.MeetsSeq3
section
variable {prog:Program} {w:World} {A:Around} {E:Value->Shared->Prop} {s:Shared}
theorem zhG: ∀ {xs:List Value} {ns ms:List Int},IntsAre xs ns->IntsAre xs ms->ns=ms
 | _,_,_,.nil,h=>by cases h;rfl
 | _,_,_,.cons a t r,h=>by
  cases h with
  | cons _ _ r'=>rw [zhG r r']
end
def ziF (h:Heap) (v:Value) (p:Int×List Int):Prop:= ∃ (a q:Addr) (t:Tok) (its:List Value),v= .ref a/\IsTup h a #[.int p.1 t,.ref q]/\IsTup h q its.toArray/\IntsAre its p.2
theorem ziF.keep {h h':Heap} {v:Value} {p:Int×List Int} (k: ∀ b o,h.get? b=some o->h'.get? b=some o):ziF h v p->ziF h' v p:=fun ⟨a,q,t,its,e,⟨o,x1,x2⟩,⟨o',y1,y2⟩,z⟩=>⟨a,q,t,its,e,⟨o,k _ _ x1,x2⟩,⟨o',k _ _ y1,y2⟩,z⟩
end
end L3
namespace L3
open PySem
section
variable {prog:Program} {w:World} {A:Around} {R:Result->Shared->Prop} {I:Addr} {fp wr:List Addr} {n:Nat} {P:Nat->Value->Prop} {St:Nat->Heap->Prop} {h0:Heap}
end
section
variable {prog:Program} {w:World} {A:Around} {E:Value->Shared->Prop} {s:Shared}
end
end L3
namespace L2
open PySem PySem.Spec PyProof.Rows L3
section
variable {X:Cx}
end
end L2
namespace L3
open PySem PySem.Spec PyProof.Rows L2
section
variable {X:Cx} {E:XE}
end
section
variable {X:Cx} {E:XE}
noncomputable def zlG (x y:D):M D:=fun h=>match pdH h x,pdH h y with
 | some a,some b=>if zeC a b=true then .ok (.bl (!PyData.eqv a b)) h else .bad
 | _,_=> .bad
theorem zmn (hu:X.A.units+60<cLine):OpR X (compareOp .NotEq) (zde X.K E zlG):=by
 intro pins s σ H x y v u Q I rx ry ⟨ι,h,d1,d2,r1,r2,hr,q⟩
 unfold zlG at q
 cases e1:pdH h d1 with
 | none=>rw [e1] at q;exact qa0 q
 | some a=>
  cases e2:pdH h d2 with
  | none=>rw [e1,e2] at q;exact qa0 q
  | some b=>
   rw [e1,e2] at q
   dsimp only at q
   by_cases c:zeC a b=true
   ·rw [qa4 c] at q
    obtain ⟨c1,c2,c3⟩:=zdK c
    obtain ⟨as,ra⟩:=zge I hr r1 rx e1
    obtain ⟨bs,rb⟩:=zge I hr r2 ry e2
    exact SeqAt.compareNe_reads ra rb c1 c2 (by omega) ⟨.bl _,H,I,rfl,q ι H (zaW.refl _ _) hr (.bl _) (by simp [Rel])⟩
   ·rw [qa5 c] at q
    exact qa0 q
noncomputable def zsG (d:D):M Bool:=do let ds<-zkc d;pure (!ds.isEmpty)
noncomputable def zrV (f:FE):FT:=fun sd=>do let d<-f sd;zsG d
end
end L3
section
namespace TS
set_option autoImplicit false
open PySem PyProof PyProof.Rows
noncomputable abbrev Ga:Bool->Keyed->Array Keyed->Nat->Nat->Nat->StateT SortSt Sem (Option Nat):=sortPriv% PySem.Builtin.gallop
noncomputable abbrev Lt:Keyed->Keyed->StateT SortSt Sem (Option Bool):=sortPriv% PySem.Builtin.lt
noncomputable abbrev El:Array Keyed->Nat->StateT SortSt Sem Keyed:=sortPriv% PySem.Builtin.elem
structure Cx where
 prog:Program
 w:World
 A:Around
 E:Value->Shared->Prop
 s:Shared
 kd:SortKind
 O:KeyOrd
 ky:Value->O.α
 ok:Value->Prop
 cmp: ∀ (E':Value->Shared->Prop) (x y:Value) (Q:Bool->Shared->Prop),ok x->ok y->Q (O.blt (ky x) (ky y)) s->wpAny (model prog w) A (keyLt' kd x y) Q E' s
noncomputable abbrev Cx.wp (c:Cx) {α:Type} (m:StateT SortSt Sem α) (Q:α->SortSt->Prop) (st:SortSt):Prop:=wpS (model c.prog c.w) c.A c.E c.s m Q st
noncomputable def Cx.lt (c:Cx) (x y:Keyed):Bool:=c.O.blt (c.ky x.1) (c.ky y.1)
def Cx.le (c:Cx) (x y:Keyed):Prop:=c.lt y x=false
section
variable {c:Cx}
theorem Cx.le_refl (x:Keyed):c.le x x:=c.O.irrefl _
theorem Cx.le_of_lt {x y:Keyed} (h:c.lt x y=true):c.le x y:=KeyOrd.klt_asymm (O:=c.O) h
theorem Cx.le_trans {x y z:Keyed} (h:c.le x y) (h2:c.le y z):c.le x z:=KeyOrd.kle_trans (O:=c.O) h h2
theorem Cx.lt_of_le_lt {x y z:Keyed} (h:c.le x y) (h2:c.lt y z=true):c.lt x z=true:=KeyOrd.klt_of_kle_of_klt (O:=c.O) h h2
theorem ziZ {x y:Keyed} {Q:Option Bool->SortSt->Prop} {st:SortSt} (hk:kindOf st=c.kd) (hx:c.ok x.1) (hy:c.ok y.1) (h:Q (some (c.lt x y)) st):c.wp (Lt x y) Q st:=by
 have e:=lt'_eq x y
 unfold lt' at e
 show wpS _ _ _ _ (Lt x y) Q st
 unfold Lt
 rw [e]
 refine qa2 (wpS_get ?_)
 rw [hk]
 refine qa2 (wpS_lift (wpAny_attempt (c.cmp _ _ _ _ hx hy ⟨rfl,?_⟩)))
 exact qa3 h
theorem zby {arr:Array Keyed} {i:Nat} {x:Keyed} {Q:Keyed->SortSt->Prop} {st:SortSt} (hx:arr[i]? = some x) (h:Q x st):c.wp (El arr i) Q st:=by
 have e:=elem'_eq arr i
 unfold elem' at e
 show wpS _ _ _ _ (El arr i) Q st
 unfold El
 rw [e,hx]
 exact qa3 h
noncomputable def pb (c:Cx) (left:Bool) (key x:Keyed):Bool:=if left then c.lt x key else !c.lt key x
theorem zhF {left:Bool} {key:Keyed} {arr:Array Keyed} {i:Nat} {x:Keyed} {Q:Option Bool->SortSt->Prop} {st:SortSt} (hk:kindOf st=c.kd) (hx:arr[i]? = some x) (okk:c.ok key.1) (okx:c.ok x.1)
  (h:Q (some (pb c left key x)) st):
  c.wp (El arr i>>=fun x=>if left=true then Lt x key else Lt key x>>=fun r=>pure (Option.map (fun x=> !x) r)) Q st:=by
 refine qa2 (zby hx ?_)
 unfold pb at h
 cases left with
 | true=>exact ziZ hk okx okk h
 | false=>exact qa2 (ziZ hk okk okx (qa3 h))
theorem zfG {left:Bool} {key:Keyed} {arr:Array Keyed} {base n hint:Nat} {Q:Option Nat->SortSt->Prop} {st:SortSt} (f:Nat->Keyed) (hk:kindOf st=c.kd) (okk:c.ok key.1)
  (hf: ∀ i,i<n->arr[base+i]? = some (f i)/\c.ok (f i).1)
  (hm: ∀ i j,i<=j->j<n->pb c left key (f j)=true->pb c left key (f i)=true) (hh:hint<n)
  (h: ∀ k,k<=n->(∀ i,i<k->pb c left key (f i)=true)->(∀ i,k<=i->i<n->pb c left key (f i)=false)->Q (some k) st):
  c.wp (Ga left key arr base n hint) Q st:=by
 show wpS _ _ _ _ (Ga left key arr base n hint) Q st
 have hmf: ∀ i j,i<=j->j<n->pb c left key (f i)=false->pb c left key (f j)=false:=by
  intro i j hij hj hi
  cases e:pb c left key (f j) with
  | false=>rfl
  | true=>rw [hm i j hij hj e] at hi;exact hi
 have third: ∀ (lo hi:Nat) (st':SortSt),st'=st->lo<=hi->hi<=n->(∀ i,i<lo->pb c left key (f i)=true)->(∀ i,hi<=i->i<n->pb c left key (f i)=false)->
   c.wp (forIn [:n] ((none:Option (Option Nat)),lo,hi) fun x __s=>
       if __s.snd.fst>=__s.snd.snd then pure (ForInStep.done (none,__s.snd.fst,__s.snd.snd))
       else (El arr (base+(__s.snd.fst+(__s.snd.snd - __s.snd.fst) / 2))>>=fun x=>if left=true then Lt x key else Lt key x>>=fun r=>pure (Option.map (fun x=> !x) r))>>=fun __x=>
         match __x with
           | some more=>
             if more=true then pure (ForInStep.yield (none,__s.snd.fst+(__s.snd.snd - __s.snd.fst) / 2+1,__s.snd.snd))
             else pure (ForInStep.yield (none,__s.snd.fst,__s.snd.fst+(__s.snd.snd - __s.snd.fst) / 2))
           | x=>pure (ForInStep.done (some none,__s.snd.fst,__s.snd.snd)))
    (fun r st'=>st'=st/\r.1=none/\r.2.2<=n/\(∀ i,i<r.2.2->pb c left key (f i)=true)/\(∀ i,r.2.2<=i->i<n->pb c left key (f i)=false)) st':=by
  intro lo hi st' est hlh hhn h1 h2
  refine wpS_forRange (I:=fun x r st'=>st'=st/\r.1=none/\r.2.1<=r.2.2/\r.2.2<=n/\r.2.2 - r.2.1<=n - x/\(∀ i,i<r.2.1->pb c left key (f i)=true)/\(∀ i,r.2.2<=i->i<n->pb c left key (f i)=false)) ?_ ?_ ⟨est,rfl,hlh,hhn,by show hi - lo<=n - 0;omega,h1,h2⟩
  ·rintro i ⟨r,lo,hi⟩ st' _ hi2 ⟨rfl,rfl,a1,a2,a3,a4,a5⟩
   dsimp only at a1 a2 a3 a4 a5 ⊢
   split
   ·refine qa3 ⟨rfl,rfl,a2,?_,a5⟩
    intro j hj
    exact a4 j (by dsimp only at hj;omega)
   ·obtain ⟨g1,g2⟩:=hf (lo+(hi - lo) / 2) (by omega)
    refine qa2 (zhF hk g1 okk g2 ?_)
    dsimp only
    cases e:pb c left key (f (lo+(hi - lo) / 2)) with
    | true=>
     rw [qa4 rfl]
     refine qa3 ⟨rfl,rfl,?_,a2,?_,?_,a5⟩
     ·dsimp only;omega
     ·dsimp only;omega
     ·intro j hj;exact hm j _ (by dsimp only at hj;omega) (by omega) e
    | false=>
     rw [qa5 (by simp)]
     refine qa3 ⟨rfl,rfl,?_,?_,?_,a4,?_⟩
     ·dsimp only;omega
     ·dsimp only;omega
     ·dsimp only;omega
     ·intro j hj hjn;exact hmf _ j hj hjn e
  ·rintro ⟨r,lo,hi⟩ st' ⟨rfl,rfl,a1,a2,a3,a4,a5⟩
   refine ⟨rfl,rfl,a2,?_,a5⟩
   dsimp only at a1 a3 a4 ⊢
   intro j hj;exact a4 j (by omega)
 obtain ⟨g1,g2⟩:=hf hint hh
 refine qa2 ?_
 dsimp only
 refine zhF hk g1 okk g2 ?_
 dsimp only
 cases e:pb c left key (f hint) with
 | true=>
  rw [qa4 rfl]
  refine qa2 (wpS_mono (wpS_forRange (I:=fun x r st'=>st'=st/\r.1=(none:Option (Option Nat))/\x+1<=r.2.2/\r.2.1<r.2.2/\hint+r.2.1<n/\pb c left key (f (hint+r.2.1))=true)
    (Q:=fun r st'=>st'=st/\r.1=none/\r.2.1<r.2.2/\hint+r.2.1<n/\pb c left key (f (hint+r.2.1))=true/\(n<=hint+r.2.2\/pb c left key (f (hint+r.2.2))=false)) ?_ ?_ ⟨rfl,rfl,qaV _,Nat.zero_lt_one,hh,by exact e⟩) ?_)
  ·rintro i ⟨r,lo,hi⟩ st' _ hi2 ⟨rfl,rfl,a1,a2,a3,a4⟩
   dsimp only at a1 a2 a3 a4 ⊢
   split
   ·exact qa3 ⟨rfl,rfl,a2,a3,a4,.inl (by dsimp only;omega)⟩
   ·obtain ⟨g1,g2⟩:=hf (hint+hi) (by omega)
    refine qa2 (zhF hk g1 okk g2 ?_)
    dsimp only
    cases e:pb c left key (f (hint+hi)) with
    | true=>
     rw [qa5 (by simp)]
     exact qa3 ⟨rfl,rfl,by dsimp only;omega,by dsimp only;omega,by dsimp only;omega,e⟩
    | false=>
     rw [qa4 (by simp)]
     exact qa3 ⟨rfl,rfl,a2,a3,a4,.inr e⟩
  ·rintro ⟨r,lo,hi⟩ st' ⟨rfl,rfl,a1,a2,a3,a4⟩
   exact ⟨rfl,rfl,a2,a3,a4,.inl (by dsimp only at a1 ⊢; omega)⟩
  ·rintro ⟨r,lo,hi⟩ st' ⟨rfl,rfl,a2,a3,a4,a5⟩
   dsimp only at a2 a3 a4 a5 ⊢
   refine qa2 (wpS_mono (third _ _ _ rfl (by omega) (by omega) (fun i hi2=>hm i _ (by omega) a3 a4) ?_) ?_)
   ·intro i h1 h2
    rcases a5 with a5 | a5
    ·omega
    ·by_cases hq:hint+hi<n
     ·exact hmf _ i (by omega) h2 a5
     ·omega
   ·rintro ⟨r,lo,hi⟩ st' ⟨rfl,rfl,b1,b2,b3⟩
    exact qa3 (h _ b1 b2 b3)
 | false=>
  rw [qa5 (by simp)]
  refine qa2 (wpS_mono (wpS_forRange (I:=fun x r st'=>st'=st/\r.1=(none:Option (Option Nat))/\x+1<=r.2.2/\r.2.1<r.2.2/\r.2.1<=hint/\pb c left key (f (hint - r.2.1))=false)
    (Q:=fun r st'=>st'=st/\r.1=none/\r.2.1<r.2.2/\r.2.1<=hint/\pb c left key (f (hint - r.2.1))=false/\(hint<r.2.2\/pb c left key (f (hint - r.2.2))=true)) ?_ ?_ ⟨rfl,rfl,qaV _,Nat.zero_lt_one,Nat.zero_le _,by exact e⟩) ?_)
  ·rintro i ⟨r,lo,hi⟩ st' _ hi2 ⟨rfl,rfl,a1,a2,a3,a4⟩
   dsimp only at a1 a2 a3 a4 ⊢
   split
   ·exact qa3 ⟨rfl,rfl,a2,a3,a4,.inl (by dsimp only;omega)⟩
   ·obtain ⟨g1,g2⟩:=hf (hint - hi) (by omega)
    refine qa2 (zhF hk g1 okk g2 ?_)
    dsimp only
    cases e:pb c left key (f (hint - hi)) with
    | false=>
     rw [qa5 (by simp)]
     exact qa3 ⟨rfl,rfl,by dsimp only;omega,by dsimp only;omega,by dsimp only;omega,e⟩
    | true=>
     rw [qa4 rfl]
     exact qa3 ⟨rfl,rfl,a2,a3,a4,.inr e⟩
  ·rintro ⟨r,lo,hi⟩ st' ⟨rfl,rfl,a1,a2,a3,a4⟩
   exact ⟨rfl,rfl,a2,a3,a4,.inl (by dsimp only at a1 ⊢; omega)⟩
  ·rintro ⟨r,lo,hi⟩ st' ⟨rfl,rfl,a2,a3,a4,a5⟩
   dsimp only at a2 a3 a4 a5 ⊢
   refine qa2 (wpS_mono (third _ _ _ rfl (by omega) (by omega) ?_ (fun i h1 h2=>hmf _ i h1 h2 a4)) ?_)
   ·intro i h1
    rcases a5 with a5 | a5
    ·omega
    ·exact hm i _ (by omega) (by omega) a5
   ·rintro ⟨r,lo,hi⟩ st' ⟨rfl,rfl,b1,b2,b3⟩
    exact qa3 (h _ b1 b2 b3)
end
end TS
end
section
namespace TS
set_option autoImplicit false
open PySem PyProof PyProof.Rows
noncomputable abbrev ML:Array Keyed->Array Keyed->StateT SortSt Sem (Array Keyed):=sortPriv% PySem.Builtin.mergeLo
noncomputable abbrev MH:Array Keyed->Array Keyed->StateT SortSt Sem (Array Keyed):=sortPriv% PySem.Builtin.mergeHi
noncomputable abbrev Sg:Nat->StateT SortSt Sem Unit:=sortPriv% PySem.Builtin.setMinGallop
structure Sm (st st':SortSt):Prop where
 k:kindOf st'=kindOf st
 a:arrOf st'=arrOf st
 p:pendingOf st'=pendingOf st
 f:failedOf st'=failedOf st
theorem Sm.refl (st:SortSt):Sm st st:=⟨rfl,rfl,rfl,rfl⟩
theorem Sm.g {st st':SortSt} (h:Sm st st') (n:Nat):Sm st (SortSt.mk' (kindOf st') (arrOf st') (pendingOf st') n (failedOf st')):=⟨h.k,h.a,h.p,h.f⟩
structure Mg (r:Keyed->Keyed->Prop) (O L R T:List Keyed):Prop where
 s:O.Pairwise r
 l: ∀ x,x∈O-> ∀ y,y∈L->r x y
 r: ∀ x,x∈O-> ∀ y,y∈R->r x y
 p:(O++(L++R)).Perm T
section
variable {r:Keyed->Keyed->Prop} {O L R T X:List Keyed}
theorem Mg.symm (h:Mg r O L R T):Mg r O R L T:=⟨h.s,h.r,h.l,(List.Perm.append_left O List.perm_append_comm).trans h.p⟩
theorem Mg.stepL (h:Mg r O (X++L) R T) (hX:(X++L).Pairwise r) (hR: ∀ x,x∈X-> ∀ y,y∈R->r x y):Mg r (O++X) L R T:=by
 rw [qaq] at hX
 refine ⟨?_,?_,?_,?_⟩
 ·rw [qaq]
  exact ⟨h.s,hX.1,fun x hx y hy=>h.l x hx y (List.mem_append_left _ hy)⟩
 ·intro x hx y hy
  rcases qaK.mp hx with hx | hx
  ·exact h.l x hx y (qak _ hy)
  ·exact hX.2.2 x hx y hy
 ·intro x hx y hy
  rcases qaK.mp hx with hx | hx
  ·exact h.r x hx y hy
  ·exact hR x hx y hy
 ·have:=h.p
  simpa [List.append_assoc] using this
theorem Mg.fin (h:Mg r O L R T) (hs:(L++R).Pairwise r):(O++(L++R)).Pairwise r/\(O++(L++R)).Perm T:=by
 refine ⟨?_,h.p⟩
 rw [qaq]
 refine ⟨h.s,hs,fun x hx y hy=> ?_⟩
 rcases qaK.mp hy with hy | hy
 ·exact h.l x hx y hy
 ·exact h.r x hx y hy
end
section
variable {c:Cx}
theorem zh1 {g:Nat} {Q:Unit->SortSt->Prop} {st:SortSt} (h:Q () (SortSt.mk' (kindOf st) (arrOf st) (pendingOf st) g (failedOf st))):c.wp (Sg g) Q st:=by
 exact wpS_modify h
theorem zds {n:String} {Q:Unit->SortSt->Prop} {st:SortSt} (h:Q () st):c.wp (liftM (rule n):StateT SortSt Sem Unit) Q st:=
 wpS_lift (wpAny_rule ⟨rfl,h⟩)
def srt (c:Cx) (a:Array Keyed):Prop:=a.toList.Pairwise c.le
def okA (c:Cx) (a:Array Keyed):Prop:= ∀ x,x∈a.toList->c.ok x.1
theorem zbe {a:Array Keyed} (h:okA c a) {i:Nat} (hi:i<a.size): ∃ x,a[i]? = some x/\c.ok x.1:=
 ⟨a[i],getElem?_pos a i hi,h _ (by simp)⟩
theorem zdy {a:Array Keyed} (h:srt c a) {i j:Nat} {x y:Keyed} (hij:i<=j) (hx:a[i]? = some x) (hy:a[j]? = some y):c.le x y:=by
 rcases Nat.lt_or_ge i j with hlt | hge
 ·obtain ⟨hj,rfl⟩:=qab.mp hy
  obtain ⟨hi,rfl⟩:=qab.mp hx
  have:=List.pairwise_iff_getElem.mp h i j (by simpa using hi) (by simpa using hj) hlt
  simpa using this
 ·have:i=j:=by omega
  subst this
  rw [hx] at hy
  cases hy
  exact Cx.le_refl _
structure MgA (c:Cx) (a b out:Array Keyed) (ia ib:Nat):Prop where
 m:Mg c.le out.toList (a.toList.drop ia) (b.toList.drop ib) (a.toList++b.toList)
 z:out.size=ia+ib
 la:ia<=a.size
 lb:ib<=b.size
def Fi (c:Cx) (a b res:Array Keyed):Prop:=srt c res/\res.toList.Perm (a.toList++b.toList)
theorem zcU {l:List Keyed} {i k:Nat} {x:Keyed} (h:x∈(l.drop i).take k): ∃ j,j<k/\l[i+j]? = some x:=by
 obtain ⟨j,hj,e⟩:=List.getElem_of_mem h
 refine ⟨j,by simp at hj;omega,?_⟩
 rw [List.getElem_take,List.getElem_drop] at e
 rw [qaf (by simp at hj;omega),e]
theorem ze5 {l:List Keyed} {i:Nat} {x:Keyed} (h:x∈l.drop i): ∃ j,l[i+j]? = some x:=by
 obtain ⟨j,hj,e⟩:=List.getElem_of_mem h
 refine ⟨j,?_⟩
 rw [List.getElem_drop] at e
 rw [qaf (by simp at hj;omega),e]
variable {a b out:Array Keyed} {ia ib k:Nat}
theorem MgA.appA (h:MgA c a b out ia ib) (ha:srt c a) (hb:srt c b) {y:Keyed} (hy:b[ib]? = some y) (hk:ia+k<=a.size)
  (hx: ∀ i x,i<k->a[ia+i]? = some x->c.le x y):MgA c a b (out++a.extract ia (ia+k)) (ia+k) ib:=by
 refine ⟨?_,?_,hk,h.lb⟩
 ·have e:a.toList.drop ia=(a.toList.drop ia).take k++a.toList.drop (ia+k):=by
   rw [<- List.drop_drop];exact (qam k _).symm
  have hm:=h.m
  rw [e] at hm
  have e2:(out++a.extract ia (ia+k)).toList=out.toList++(a.toList.drop ia).take k:=by
   simp [List.extract,Nat.add_sub_cancel_left]
  rw [e2]
  refine hm.stepL (by rw [<- e];exact List.Pairwise.sublist (List.drop_sublist _ _) ha) ?_
  intro x hxm z hz
  obtain ⟨j,hj,ej⟩:=zcU hxm
  obtain ⟨i,ei⟩:=ze5 hz
  rw [qaj] at ej ei
  exact Cx.le_trans (hx j x hj ej) (zdy hb (Nat.le_add_right _ _) hy ei)
 ·rw [Array.size_append,qaz,h.z]
  omega
theorem MgA.appB (h:MgA c a b out ia ib) (ha:srt c a) (hb:srt c b) {x:Keyed} (hx:a[ia]? = some x) (hk:ib+k<=b.size)
  (hy: ∀ i y,i<k->b[ib+i]? = some y->c.le y x):MgA c a b (out++b.extract ib (ib+k)) ia (ib+k):=by
 refine ⟨?_,?_,h.la,hk⟩
 ·have e:b.toList.drop ib=(b.toList.drop ib).take k++b.toList.drop (ib+k):=by
   rw [<- List.drop_drop];exact (qam k _).symm
  have hm:=h.m.symm
  rw [e] at hm
  have e2:(out++b.extract ib (ib+k)).toList=out.toList++(b.toList.drop ib).take k:=by
   simp [List.extract,Nat.add_sub_cancel_left]
  rw [e2]
  refine (hm.stepL (by rw [<- e];exact List.Pairwise.sublist (List.drop_sublist _ _) hb) ?_).symm
  intro x hxm z hz
  obtain ⟨j,hj,ej⟩:=zcU hxm
  obtain ⟨i,ei⟩:=ze5 hz
  rw [qaj] at ej ei
  exact Cx.le_trans (hy j x hj ej) (zdy ha (Nat.le_add_right _ _) hx ei)
 ·rw [Array.size_append,qaz,h.z]
  omega
theorem zeO {i:Nat} {x:Keyed} (hx:a[i]? = some x):out.push x=out++a.extract i (i+1):=by
 obtain ⟨hi,rfl⟩:=qab.mp hx
 apply Array.ext'
 simp only [Array.toList_push,Array.toList_append,Array.toList_extract,List.extract,Nat.add_sub_cancel_left]
 rw [qae (by simpa using hi)]
 simp
theorem MgA.pushA (h:MgA c a b out ia ib) (ha:srt c a) (hb:srt c b) {x y:Keyed} (hx:a[ia]? = some x) (hy:b[ib]? = some y) (hxy:c.le x y):MgA c a b (out.push x) (ia+1) ib:=by
 rw [zeO hx]
 refine h.appA ha hb hy (qab.mp hx).1 ?_
 intro i z hi hz
 have:i=0:=by omega
 subst this
 rw [Nat.add_zero,hx] at hz
 cases hz
 exact hxy
theorem MgA.pushB (h:MgA c a b out ia ib) (ha:srt c a) (hb:srt c b) {x y:Keyed} (hx:a[ia]? = some x) (hy:b[ib]? = some y) (hxy:c.le y x):MgA c a b (out.push y) ia (ib+1):=by
 rw [zeO hy]
 refine h.appB ha hb hx (qab.mp hy).1 ?_
 intro i z hi hz
 have:i=0:=by omega
 subst this
 rw [Nat.add_zero,hy] at hz
 cases hz
 exact hxy
theorem MgA.done (h:MgA c a b out ia ib) (ha:srt c a) (hb:srt c b) (he:ia=a.size\/ib=b.size):Fi c a b (out++a.extract ia++b.extract ib):=by
 have e:(out++a.extract ia++b.extract ib).toList=out.toList++(a.toList.drop ia++b.toList.drop ib):=by
  simp [List.extract,List.take_of_length_le]
 have hs:(a.toList.drop ia++b.toList.drop ib).Pairwise c.le:=by
  rcases he with he | he
  ·rw [List.drop_eq_nil_of_le (by simp [he]),List.nil_append]
   exact List.Pairwise.sublist (List.drop_sublist _ _) hb
  ·rw [List.drop_eq_nil_of_le (as:=b.toList) (by simp [he]),List.append_nil]
   exact List.Pairwise.sublist (List.drop_sublist _ _) ha
 obtain ⟨h1,h2⟩:=h.m.fin hs
 exact ⟨by unfold srt;rw [e];exact h1,by rw [e];exact h2⟩
theorem MgA.last (h:MgA c a b out ia ib) (_ha:srt c a) (hb:srt c b) (he:ia+1=a.size) (hl: ∀ x,a[ia]? = some x-> ∀ y,y∈b.toList->c.le y x):Fi c a b (out++b.extract ib++a.extract ia):=by
 have e:(out++b.extract ib++a.extract ia).toList=out.toList++(b.toList.drop ib++a.toList.drop ia):=by
  simp [List.extract,List.take_of_length_le]
 have ed:a.toList.drop ia=[a[ia]]:=by
  rw [qae (by simp;omega),List.drop_eq_nil_of_le (by simp;omega)]
  simp
 have hs:(b.toList.drop ib++a.toList.drop ia).Pairwise c.le:=by
  rw [ed,qaq]
  refine ⟨List.Pairwise.sublist (List.drop_sublist _ _) hb,List.pairwise_singleton _ _,?_⟩
  intro x hx y hy
  rw [List.mem_singleton.mp hy]
  exact hl _ (getElem?_pos a ia (by omega)) x (List.mem_of_mem_drop hx)
 obtain ⟨h1,h2⟩:=h.m.symm.fin hs
 exact ⟨by unfold srt;rw [e];exact h1,by rw [e];exact h2⟩
end
end TS
end
section
namespace TS
set_option autoImplicit false
open PySem PyProof PyProof.Rows
section
variable {c:Cx} {a b:Array Keyed}
theorem zaA {α:Type} {p:Prop} [Decidable p] {x y:StateT SortSt Sem α} {Q:α->SortSt->Prop} {st:SortSt} (h1:p->c.wp x Q st) (h2: ¬p->c.wp y Q st):c.wp (if p then x else y) Q st:=by
 by_cases h:p
 ·rw [qa4 h];exact h1 h
 ·rw [qa5 h];exact h2 h
theorem zaY {α:Type} {i j:Nat} {x y:StateT SortSt Sem α} {Q:α->SortSt->Prop} {st:SortSt} (h1:i=j->c.wp x Q st) (h2: ¬i=j->c.wp y Q st):c.wp (if (i==j)=true then x else y) Q st:=
 zaA (fun h=>h1 (by simpa using h)) (fun h=>h2 (by simpa using h))
theorem znd {st:SortSt} {base n hint:Nat} {y:Keyed} {Q:Option Nat->SortSt->Prop} (hk:kindOf st=c.kd) (oy:c.ok y.1) (hi:hint<n)
  (ha: ∀ i j x z,i<=j->j<n->a[base+i]? = some x->a[base+j]? = some z->c.le x z) (oa: ∀ i,i<n-> ∃ x,a[base+i]? = some x/\c.ok x.1)
  (h: ∀ k,k<=n->(∀ i x,i<k->a[base+i]? = some x->c.le x y)->(∀ i x,k<=i->i<n->a[base+i]? = some x->c.lt y x=true)->Q (some k) st):
  c.wp (Ga false y a base n hint) Q st:=by
 refine zfG (fun i=>a[base+i]?.getD y) hk oy ?_ ?_ hi ?_
 ·intro i hi2
  obtain ⟨x,ex,ox⟩:=oa i hi2
  exact ⟨by rw [ex];rfl,by rw [ex];exact ox⟩
 ·intro i j hij hj hp
  obtain ⟨x,ex,ox⟩:=oa i (by omega)
  obtain ⟨z,ez,oz⟩:=oa j hj
  rw [ez] at hp
  rw [ex]
  have hxz:=ha i j x z hij hj ex ez
  simp only [pb,qax,if_false,Bool.not_eq_true',Option.getD_some] at hp ⊢
  exact Cx.le_trans (c:=c) hxz hp
 ·intro k hk1 h1 h2
  refine h k hk1 ?_ ?_
  ·intro i x hi2 ex
   have:=h1 i hi2
   rw [ex] at this
   simpa [pb,Cx.le] using this
  ·intro i x hi2 hin ex
   have:=h2 i hi2 hin
   rw [ex] at this
   simpa [pb] using this
theorem zpU {st:SortSt} {ib n hint:Nat} {x:Keyed} {Q:Option Nat->SortSt->Prop} (hk:kindOf st=c.kd) (ox:c.ok x.1) (hi:hint<n)
  (hb: ∀ i j y z,i<=j->j<n->b[ib+i]? = some y->b[ib+j]? = some z->c.le y z) (ob: ∀ i,i<n-> ∃ y,b[ib+i]? = some y/\c.ok y.1)
  (h: ∀ k,k<=n->(∀ i y,i<k->b[ib+i]? = some y->c.lt y x=true)->(∀ i y,k<=i->i<n->b[ib+i]? = some y->c.le x y)->Q (some k) st):
  c.wp (Ga true x b ib n hint) Q st:=by
 refine zfG (fun i=>b[ib+i]?.getD x) hk ox ?_ ?_ hi ?_
 ·intro i hi2
  obtain ⟨y,ey,oy⟩:=ob i (by omega)
  exact ⟨by rw [ey];rfl,by rw [ey];exact oy⟩
 ·intro i j hij hj hp
  obtain ⟨y,ey,oy⟩:=ob i (by omega)
  obtain ⟨z,ez,oz⟩:=ob j (by omega)
  rw [ez] at hp
  rw [ey]
  have hyz:=hb i j y z hij hj ey ez
  simp only [pb,if_true,Option.getD_some] at hp ⊢
  exact Cx.lt_of_le_lt (c:=c) hyz hp
 ·intro k hk1 h1 h2
  refine h k hk1 ?_ ?_
  ·intro i y hi2 ey
   have:=h1 i hi2
   rw [ey] at this
   simpa [pb] using this
  ·intro i y hi2 hin ey
   have:=h2 i hi2 hin
   rw [ey] at this
   simpa [pb,Cx.le] using this
theorem zkk {st:SortSt} {ia:Nat} {y:Keyed} {Q:Option Nat->SortSt->Prop} (hk:kindOf st=c.kd) (ha:srt c a) (oa:okA c a) (oy:c.ok y.1) (hi:ia<a.size)
  (h: ∀ k,ia+k<=a.size->(∀ i x,i<k->a[ia+i]? = some x->c.le x y)->(∀ i x,k<=i->a[ia+i]? = some x->c.lt y x=true)->Q (some k) st):
  c.wp (Ga false y a ia (a.size - ia) 0) Q st:=
 znd hk oy (by omega) (fun i j x z hij _ hx hz=>zdy ha (by omega) hx hz) (fun i hi=>zbe oa (by omega)) fun k h1 h2 h3=>h k (by omega) h2 (fun i x hi hx=>h3 i x hi (by have:=(qab.mp hx).1;omega) hx)
theorem zhI {st:SortSt} {ib n hint:Nat} {x:Keyed} {Q:Option Nat->SortSt->Prop} (hk:kindOf st=c.kd) (hb:srt c b) (ob:okA c b) (ox:c.ok x.1) (hi:hint<n) (hn:ib+n<=b.size)
  (h: ∀ k,k<=n->(∀ i y,i<k->b[ib+i]? = some y->c.lt y x=true)->(∀ i y,k<=i->i<n->b[ib+i]? = some y->c.le x y)->Q (some k) st):
  c.wp (Ga true x b ib n hint) Q st:=
 zpU hk ox hi (fun i j x z hij _ hx hz=>zdy hb (by omega) hx hz) (fun i hi=>zbe ob (by omega)) h
noncomputable abbrev StL:=ForInStep (Option (Array Keyed)×Array Keyed×Nat×Nat×Nat×Nat×Nat)
structure Ex (c:Cx) (a b:Array Keyed) (N:Nat) (Q:StL->SortSt->Prop) (st:SortSt):Prop where
 d1: ∀ res t,Fi c a b res->Q (.done (some res,t)) st
 d2: ∀ o i j t,MgA c a b o i j->i+1<a.size->j<b.size->N<=o.size->Q (.done (none,o,i,j,t)) st/\Q (.yield (none,o,i,j,t)) st
 hl: ∀ (o:Array Keyed) (i j:Nat),MgA c a b o i j->i+1=a.size->Fi c a b (o++b.extract j++a.extract i)
 ha:srt c a
 hb:srt c b
 oa:okA c a
 ob:okA c b
 hk:kindOf st=c.kd
noncomputable def T4 (a b o:Array Keyed) (i j g k l:Nat):StateT SortSt Sem StL:=El a i>>=fun z=>
 if (i+1+1==a.size)=true then pure (.done (some (o.push z++b.extract j++a.extract (i+1)),o.push z,i+1,j,g,k,l))
 else if (decide (k<7) && decide (l<7))=true then pure (.done (none,o.push z,i+1,j,g,k,l)) else pure (.yield (none,o.push z,i+1,j,g,k,l))
noncomputable def T3 (a b o:Array Keyed) (i j g k v:Nat):StateT SortSt Sem StL:=El b j>>=fun y=>
 if (j+1==b.size)=true then pure (.done (some (o.push y++a.extract i++b.extract (j+1)),o.push y,i,j+1,g,k,v))
 else El a i>>=fun z=>Ga true z b (j+1) (b.size - (j+1)) 0>>=fun x=>match x with
  | some l=>if l>0 then
    if (j+1+l==b.size)=true then pure (.done (some (o.push y++b.extract (j+1) (j+1+l)++a.extract i++b.extract (j+1+l)),o.push y++b.extract (j+1) (j+1+l),i,j+1+l,g,k,l))
    else T4 a b (o.push y++b.extract (j+1) (j+1+l)) i (j+1+l) g k l
   else T4 a b (o.push y) i (j+1) g k l
  | _=>pure (.done (some (o.push y++a.extract i++b.extract (j+1)),o.push y,i,j+1,g,k,v))
noncomputable def T2 (a b o:Array Keyed) (i j g u v:Nat):StateT SortSt Sem StL:=El b j>>=fun y=>Ga false y a i (a.size - i) 0>>=fun x=>match x with
  | some k=>if k>0 then
    if (i+k+1==a.size)=true then pure (.done (some (o++a.extract i (i+k)++b.extract j++a.extract (i+k)),o++a.extract i (i+k),i+k,j,g,k,v))
    else if (i+k==a.size)=true then pure (.done (some (o++a.extract i (i+k)++a.extract (i+k)++b.extract j),o++a.extract i (i+k),i+k,j,g,k,v))
    else T3 a b (o++a.extract i (i+k)) (i+k) j g k v
   else T3 a b o i j g k v
  | _=>pure (.done (some (o++a.extract i++b.extract j),o,i,j,g,u,v))
section
variable {N:Nat} {Q:StL->SortSt->Prop} {st:SortSt} {o:Array Keyed} {i j g k l u v:Nat}
theorem zoX (x:Ex c a b N Q st) (m:MgA c a b o i j) (b1:i+1<a.size) (b2:j<b.size) (b3:N<=o.size) {z w:Keyed} (ew:b[j]? = some w) (ez:a[i]? = some z) (lzw:c.le z w):c.wp (T4 a b o i j g k l) Q st:=by
 refine qa2 (zby ez ?_)
 have m2:=m.pushA x.ha x.hb ez ew lzw
 have d:=fun b1=>x.d2 _ _ _ (g,k,l) m2 b1 b2 (by rw [Array.size_push];omega)
 refine zaY (fun p3=>qa3 (x.d1 _ _ (x.hl _ _ _ m2 p3))) (fun p3=>zaA (fun _=>qa3 (d (by omega)).1) (fun _=>qa3 (d (by omega)).2))
theorem zqh (x:Ex c a b N Q st) (m:MgA c a b o i j) (b1:i+1<a.size) (b2:j<b.size) (b3:N<=o.size) {y z:Keyed} (ey:b[j]? = some y) (ez:a[i]? = some z) (oz:c.ok z.1) (lyz:c.le y z):c.wp (T3 a b o i j g k v) Q st:=by
 refine qa2 (zby ey ?_)
 have m2:=m.pushB x.ha x.hb ez ey lyz
 have b4:N<=(o.push y).size:=by rw [Array.size_push];omega
 refine zaY (fun p=>qa3 (x.d1 _ _ (m2.done x.ha x.hb (.inr p)))) (fun p=> ?_)
 refine qa2 (zby ez (qa2 (zhI x.hk x.hb x.ob oz (by omega) (by omega) ?_)))
 intro l hl1 hl2 hl3
 have m3:=m2.appB x.ha x.hb ez (by omega) (fun i y hi hy=>Cx.le_of_lt (hl2 i y hi hy))
 refine zaA (fun l0=>zaY (fun p2=>qa3 (x.d1 _ _ (m3.done x.ha x.hb (.inr p2)))) (fun p2=> ?_)) (fun l0=> ?_)
 ·obtain ⟨w,ew,ow⟩:=zbe x.ob (i:=j+1+l) (by omega)
  exact zoX x m3 b1 (by omega) (by rw [Array.size_append];omega) ew ez (hl3 l w (qaV _) (by omega) ew)
 ·have el:l=0:=by omega
  subst el
  obtain ⟨w,ew,ow⟩:=zbe x.ob (i:=j+1) (by omega)
  exact zoX x m2 b1 (by omega) b4 ew ez (hl3 0 w (qaV _) (by omega) ew)
theorem zp5 (x:Ex c a b N Q st) (m:MgA c a b o i j) (b1:i+1<a.size) (b2:j<b.size) (b3:N<=o.size):c.wp (T2 a b o i j g u v) Q st:=by
 obtain ⟨y,ey,oy⟩:=zbe x.ob b2
 refine qa2 (zby ey (qa2 (zkk x.hk x.ha x.oa oy (by omega) ?_)))
 intro k hk1 hk2 hk3
 have m2:=m.appA x.ha x.hb ey hk1 hk2
 refine zaA (fun k0=>zaY (fun q=>qa3 (x.d1 _ _ (x.hl _ _ _ m2 q))) (fun q=>zaY (fun q2=>qa3 (x.d1 _ _ (m2.done x.ha x.hb (.inl q2)))) (fun q2=> ?_))) (fun k0=> ?_)
 ·obtain ⟨z,ez,oz⟩:=zbe x.oa (i:=i+k) (by omega)
  exact zqh x m2 (by omega) b2 (by rw [Array.size_append];omega) ey ez oz (Cx.le_of_lt (hk3 k z (qaV _) ez))
 ·have ek:k=0:=by omega
  subst ek
  obtain ⟨z,ez,oz⟩:=zbe x.oa (i:=i) (by omega)
  exact zqh x m b1 b2 b3 ey ez oz (Cx.le_of_lt (hk3 0 z (qaV _) ez))
end
noncomputable abbrev S5:=Option (Array Keyed)×Array Keyed×Nat×Nat×Nat
noncomputable abbrev S6:=Option (Array Keyed)×Array Keyed×Nat×Nat×Nat×Nat
noncomputable abbrev S7:=Option (Array Keyed)×Array Keyed×Nat×Nat×Nat×Nat×Nat
noncomputable def zr3 (st:SortSt):Nat:=(sortPriv% PySem.Builtin.SortState.minGallop) st
noncomputable def A1 (a b:Array Keyed) (g:Nat) (o:Array Keyed) (i j u v:Nat):StateT SortSt Sem (ForInStep S6):=El b j>>=fun y=>El a i>>=fun z=>Lt y z>>=fun x=>match x with
 | some w=>if w=true then El b j>>=fun y=>if (j+1==b.size)=true then pure (.done (some (o.push y++a.extract i++b.extract (j+1)),o.push y,i,j+1,0,v+1)) else if v+1>=g then pure (.done (none,o.push y,i,j+1,0,v+1)) else pure (.yield (none,o.push y,i,j+1,0,v+1))
  else El a i>>=fun z=>if (i+1+1==a.size)=true then pure (.done (some (o.push z++b.extract j++a.extract (i+1)),o.push z,i+1,j,u+1,0)) else if u+1>=g then pure (.done (none,o.push z,i+1,j,u+1,0)) else pure (.yield (none,o.push z,i+1,j,u+1,0))
 | _=>pure (.done (some (o++a.extract i++b.extract j),o,i,j,u,v))
noncomputable def A2 (a b:Array Keyed) (o:Array Keyed) (i j g u v:Nat):StateT SortSt Sem (ForInStep S7):=
 if g>1 then Sg (g - 1)>>=fun _=>T2 a b o i j (g - 1) u v else Sg g>>=fun _=>T2 a b o i j g u v
noncomputable def A5 (r:S7):StateT SortSt Sem (ForInStep S5):=match r.1 with
 | some x=>pure (.done (some x,r.2.1,r.2.2.1,r.2.2.2.1,r.2.2.2.2.1))
 | none=>Sg (r.2.2.2.2.1+1)>>=fun _=>pure (.yield (none,r.2.1,r.2.2.1,r.2.2.2.1,r.2.2.2.2.1+1))
noncomputable def A4 (a b:Array Keyed) (g:Nat) (r:S6):StateT SortSt Sem (ForInStep S5):=match r.1 with
 | some x=>pure (.done (some x,r.2.1,r.2.2.1,r.2.2.2.1,g))
 | none=>(liftM (rule "list.sort.gallop"):StateT SortSt Sem Unit)>>=fun _=>forIn [0:a.size+b.size] ((none,r.2.1,r.2.2.1,r.2.2.2.1,g+1,r.2.2.2.2.1,r.2.2.2.2.2):S7) (fun _ r=>A2 a b r.2.1 r.2.2.1 r.2.2.2.1 r.2.2.2.2.1 r.2.2.2.2.2.1 r.2.2.2.2.2.2)>>=fun r=>A5 r
noncomputable def A3 (a b:Array Keyed) (o:Array Keyed) (i j g:Nat):StateT SortSt Sem (ForInStep S5):=
 forIn [0:a.size+b.size] ((none,o,i,j,0,0):S6) (fun _ r=>A1 a b g r.2.1 r.2.2.1 r.2.2.2.1 r.2.2.2.2.1 r.2.2.2.2.2)>>=fun r=>A4 a b g r
noncomputable def ML' (a b:Array Keyed):StateT SortSt Sem (Array Keyed):=(liftM (rule "list.sort.merge-lo"):StateT SortSt Sem Unit)>>=fun _=>El b 0>>=fun y=>
 if (1==b.size)=true then pure (#[y]++a.extract 0++b.extract 1) else if (0+1==a.size)=true then pure (#[y]++b.extract 1++a.extract 0)
 else get>>=fun st=>forIn [0:a.size+b.size] ((none, #[y],0,1,zr3 st):S5) (fun _ r=>A3 a b r.2.1 r.2.2.1 r.2.2.2.1 r.2.2.2.2)>>=fun r=>match r.1 with
  | some x=>pure x
  | none=>liftM (unsupported "internal:list.sort.merge-bound":Sem (Array Keyed))
theorem bnd {α β:Type} {m m':StateT SortSt Sem α} {f f':α->StateT SortSt Sem β} (h:m=m') (h2: ∀ x,f x=f' x):(m>>=f)=(m'>>=f'):=by
 rw [h,funext h2]
theorem zoh {β:Type} {n:Nat} {x:β} {f f':Nat->β->StateT SortSt Sem (ForInStep β)} (h: ∀ i r,f i r=f' i r):forIn [0:n] x f=forIn [0:n] x f':=by
 rw [show f=f' from funext fun i=>funext (h i)]
theorem zq2 (a b:Array Keyed):ML a b=ML' a b:=by
 refine bnd rfl fun _=>bnd rfl fun y=> ?_
 by_cases h1:(1==b.size)=true
 ·exact (qa4 h1).trans (qa4 h1).symm
 refine (qa5 h1).trans (Eq.trans ?_ (qa5 h1).symm)
 by_cases h2:(0+1==a.size)=true
 ·exact (qa4 h2).trans (qa4 h2).symm
 refine (qa5 h2).trans (Eq.trans ?_ (qa5 h2).symm)
 refine bnd rfl fun st=>bnd (zoh fun _ r=> ?_) fun r=> ?_
 ·refine bnd (zoh fun _ r=> ?_) fun r'=> ?_
  ·rfl
  ·obtain ⟨q,r'⟩:=r'
   cases q with
   | some x=>rfl
   | none=>
    refine bnd rfl fun _=>bnd (zoh fun _ r=> ?_) fun r3=> ?_
    ·rfl
    ·obtain ⟨q,r'⟩:=r3
     cases q with
     | some x=>rfl
     | none=>rfl
 ·obtain ⟨q,r⟩:=r
  cases q with
  | some x=>rfl
  | none=>rfl
def Lo (c:Cx) (a b:Array Keyed) (N:Nat) (o:Array Keyed) (i j:Nat):Prop:=MgA c a b o i j/\i+1<a.size/\j<b.size/\N<=o.size
theorem zqv {st1:SortSt} {o:Array Keyed} {i j g u v N:Nat} {Q:ForInStep S6->SortSt->Prop} (hk:kindOf st1=c.kd) (ha:srt c a) (hb:srt c b) (oa:okA c a) (ob:okA c b)
  (hl: ∀ (o:Array Keyed) (i j:Nat),MgA c a b o i j->i+1=a.size->Fi c a b (o++b.extract j++a.extract i)) (m:Lo c a b N o i j)
  (d1: ∀ res t,Fi c a b res->Q (.done (some res,t)) st1) (d2: ∀ o i j t,Lo c a b (N+1) o i j->Q (.done (none,o,i,j,t)) st1/\Q (.yield (none,o,i,j,t)) st1):c.wp (A1 a b g o i j u v) Q st1:=by
 obtain ⟨m1,b1,b2,b3⟩:=m
 obtain ⟨y,ey,oy⟩:=zbe ob b2
 obtain ⟨z,ez,oz⟩:=zbe oa (i:=i) (by omega)
 refine qa2 (zby ey (qa2 (zby ez (qa2 (ziZ hk oy oz ?_)))))
 refine zaA (fun eq=>qa2 (zby ey ?_)) (fun eq=>qa2 (zby ez ?_))
 ·have m2:=m1.pushB ha hb ez ey (Cx.le_of_lt eq)
  have d:=fun t q=>d2 _ _ _ t ⟨m2,b1,q,by rw [Array.size_push];omega⟩
  exact zaY (fun q=>qa3 (d1 _ _ (m2.done ha hb (.inr q)))) (fun q=>zaA (fun _=>qa3 (d _ (by omega)).1) (fun _=>qa3 (d _ (by omega)).2))
 ·have m2:=m1.pushA ha hb ez ey (by simpa [Cx.le] using eq)
  have d:=fun t q=>d2 _ _ _ t ⟨m2,q,b2,by rw [Array.size_push];omega⟩
  exact zaY (fun q=>qa3 (d1 _ _ (hl _ _ _ m2 q))) (fun q=>zaA (fun _=>qa3 (d _ (by omega)).1) (fun _=>qa3 (d _ (by omega)).2))
theorem zrE {st st1:SortSt} {o:Array Keyed} {i j g u v N:Nat} {Q:ForInStep S7->SortSt->Prop} (s0:Sm st st1) (hk:kindOf st=c.kd) (ha:srt c a) (hb:srt c b) (oa:okA c a) (ob:okA c b)
  (hl: ∀ (o:Array Keyed) (i j:Nat),MgA c a b o i j->i+1=a.size->Fi c a b (o++b.extract j++a.extract i)) (m:Lo c a b N o i j)
  (d1: ∀ st' res t,Sm st st'->Fi c a b res->Q (.done (some res,t)) st') (d2: ∀ st' o i j t,Sm st st'->Lo c a b N o i j->Q (.done (none,o,i,j,t)) st'/\Q (.yield (none,o,i,j,t)) st'):c.wp (A2 a b o i j g u v) Q st1:=by
 have E:=fun g=>Ex.mk (c:=c) (a:=a) (b:=b) (N:=N) (st:=SortSt.mk' (kindOf st1) (arrOf st1) (pendingOf st1) g (failedOf st1)) (Q:=Q) (fun res t f=>d1 _ res t (s0.g _) f) (fun o i j t m b1 b2 b3=>d2 _ o i j t (s0.g _) ⟨m,b1,b2,b3⟩) hl ha hb oa ob ((s0.g g).k.trans hk)
 exact zaA (fun _=>qa2 (zh1 (zp5 (E _) m.1 m.2.1 m.2.2.1 m.2.2.2))) (fun _=>qa2 (zh1 (zp5 (E _) m.1 m.2.1 m.2.2.1 m.2.2.2)))
theorem zrH {st:SortSt} {Q:Array Keyed->SortSt->Prop} (hk:kindOf st=c.kd) (ha:srt c a) (hb:srt c b) (oa:okA c a) (ob:okA c b) (na:0<a.size) (nb:0<b.size)
  (hfirst: ∀ x y,a[0]? = some x->b[0]? = some y->c.le y x) (hlast: ∀ x,a[a.size - 1]? = some x-> ∀ y,y∈b.toList->c.le y x)
  (h: ∀ res st',Sm st st'->Fi c a b res->Q res st'):c.wp (ML a b) Q st:=by
 rw [zq2]
 obtain ⟨y0,ey0,oy0⟩:=zbe ob nb
 obtain ⟨x0,ex0,ox0⟩:=zbe oa na
 have hl: ∀ (o:Array Keyed) (i j:Nat),MgA c a b o i j->i+1=a.size->Fi c a b (o++b.extract j++a.extract i):=by
  intro o i j hm hi
  refine hm.last ha hb hi ?_
  intro x hx
  exact hlast x (by rw [<- hi];exact hx)
 have hst:MgA c a b #[y0] 0 1:=by
  have:=(MgA.mk (c:=c) (a:=a) (b:=b) (out:= #[]) (ia:=0) (ib:=0) ⟨List.Pairwise.nil,by simp,by simp,by simp⟩ rfl (Nat.zero_le _) (Nat.zero_le _)).pushB ha hb ex0 ey0 (hfirst _ _ ex0 ey0)
  exact this
 refine qa2 (zds (qa2 (zby ey0 (zaY (fun h1=>qa3 (h _ _ (Sm.refl _) (hst.done ha hb (.inr h1)))) (fun h1=>zaY (fun h2=>qa3 (h _ _ (Sm.refl _) (hl _ _ _ hst h2))) (fun h2=> ?_))))))
 refine qa2 (wpS_get ?_)
 refine qa2 (wpS_mono (wpS_forRange (I:=fun x r st'=>r.1=none/\Sm st st'/\Lo c a b (x+1) r.2.1 r.2.2.1 r.2.2.2.1) (Q:=fun r st'=> ∃ res,r.1=some res/\Sm st st'/\Fi c a b res) ?_ ?_ ⟨rfl,Sm.refl _,hst,show 0+1<a.size by omega,show 1<b.size by omega,qaV _⟩) ?_)
 ·rintro xo r st1 - hx1 ⟨-, s1,m1⟩
  refine qa2 (wpS_mono (wpS_forRange (I:=fun x r st'=>r.1=none/\Sm st st'/\Lo c a b (xo+1+x) r.2.1 r.2.2.1 r.2.2.2.1)
    (Q:=fun r st'=>(∃ res,r.1=some res/\Sm st st'/\Fi c a b res)\/(r.1=none/\Sm st st'/\Lo c a b (xo+2) r.2.1 r.2.2.1 r.2.2.2.1)) ?_ ?_ ⟨rfl,s1,m1⟩) ?_)
  ·rintro x r st1 - hx2 ⟨-, s1,m1⟩
   refine zqv (s1.k.trans hk) ha hb oa ob hl m1 (fun res t f=> .inl ⟨res,rfl,s1,f⟩) fun o i j t m=>⟨.inr ⟨rfl,s1,m.1,m.2.1,m.2.2.1,?_⟩,⟨rfl,s1,m⟩⟩
   have:=m.2.2.2
   show xo+2<=o.size
   omega
  ·rintro r st1 ⟨e,s1,m1,b1,b2,b3⟩
   refine .inr ⟨e,s1,m1,b1,b2,?_⟩
   omega
  ·rintro ⟨r,t⟩ st1 (⟨res,e,s1,f1⟩ | ⟨e,s1,m1⟩)
   ·cases e
    exact qa3 ⟨res,rfl,s1,f1⟩
   cases e
   refine qa2 (zds ?_)
   refine qa2 (wpS_mono (wpS_forRange (I:=fun x r st'=>r.1=none/\Sm st st'/\Lo c a b (xo+2) r.2.1 r.2.2.1 r.2.2.2.1)
     (Q:=fun r st'=>(∃ res,r.1=some res/\Sm st st'/\Fi c a b res)\/(r.1=none/\Sm st st'/\Lo c a b (xo+2) r.2.1 r.2.2.1 r.2.2.2.1)) ?_ ?_ ⟨rfl,s1,m1⟩) ?_)
   ·rintro x r st1 - hx2 ⟨-, s0,m1⟩
    exact zrE s0 hk ha hb oa ob hl m1 (fun st' res t s0 f=> .inl ⟨res,rfl,s0,f⟩) (fun st' o i j t s0 m=>⟨.inr ⟨rfl,s0,m⟩,⟨rfl,s0,m⟩⟩)
   ·rintro r st1 ⟨e,s1,m1⟩
    exact .inr ⟨e,s1,m1⟩
   ·rintro ⟨r,t⟩ st1 (⟨res,e,s1,f1⟩ | ⟨e,s1,m1⟩)
    ·cases e
     exact qa3 ⟨res,rfl,s1,f1⟩
    cases e
    exact qa2 (zh1 (qa3 ⟨rfl,s1.g _,m1⟩))
 ·rintro r st1 ⟨e,s1,m1,b1,b2,b3⟩
  have z1:=m1.z
  omega
 ·rintro ⟨r,t⟩ st1 ⟨res,e,s1,f1⟩
  cases e
  exact qa3 (h _ _ s1 f1)
end
end TS
end
section
namespace TS
set_option autoImplicit false
open PySem PyProof PyProof.Rows
section
variable {c:Cx} {a b out:Array Keyed} {na nb at':Nat}
structure MgH (c:Cx) (a b out:Array Keyed) (na nb:Nat):Prop where
 m:Mg (fun x y=>c.le y x) out.toList (a.toList.take na).reverse (b.toList.take nb).reverse (a.toList++b.toList)
 z:out.size+na+nb=a.size+b.size
 la:na<=a.size
 lb:nb<=b.size
theorem zeL {l:List Keyed} {i n:Nat} (h:i<=n):(l.take n).reverse=((l.take n).drop i).reverse++(l.take i).reverse:=by
 rw [<- List.reverse_append]
 congr 1
 have:l.take i=(l.take n).take i:=by rw [List.take_take,Nat.min_eq_left h]
 rw [this,qam]
theorem zfN {l:Array Keyed} (n:Nat) (h:srt c l):((l.toList.take n).reverse).Pairwise (fun x y=>c.le y x):=by
 rw [List.pairwise_reverse]
 exact List.Pairwise.sublist (List.take_sublist _ _) h
theorem zct {l:List Keyed} {i n:Nat} {x:Keyed} (h:x∈((l.take n).drop i).reverse): ∃ j,i<=j/\j<n/\l[j]? = some x:=by
 rw [List.mem_reverse] at h
 obtain ⟨j,e⟩:=ze5 h
 have hj:=qac.mp e
 obtain ⟨hj,e2⟩:=hj
 rw [List.length_take] at hj
 rw [List.getElem_take] at e2
 exact ⟨i+j,by omega,by omega,by rw [qaf (by omega),e2]⟩
theorem zdE {l:List Keyed} {n:Nat} {x:Keyed} (h:x∈(l.take n).reverse): ∃ j,j<n/\l[j]? = some x:=by
 obtain ⟨j,_,h2,h3⟩:=zct (i:=0) (by simpa using h)
 exact ⟨j,h2,h3⟩
theorem zi9 {i n:Nat}:(out++(a.extract i n).reverse).toList=out.toList++((a.toList.take n).drop i).reverse:=by
 simp [List.extract,List.drop_take]
theorem MgH.appA (h:MgH c a b out na nb) (ha:srt c a) (hb:srt c b) {y:Keyed} (n0:0<nb) (hy:b[nb - 1]? = some y) (hk:at'<=na)
  (hx: ∀ i x,at'<=i->i<na->a[i]? = some x->c.le y x):MgH c a b (out++(a.extract at' na).reverse) at' nb:=by
 have hla:=h.la
 refine ⟨?_,?_,by omega,h.lb⟩
 ·have hm:=h.m
  have hp:=zfN na ha
  rw [zeL hk] at hm hp
  rw [zi9]
  refine hm.stepL hp ?_
  intro x hxm z hz
  obtain ⟨j,j1,j2,ej⟩:=zct hxm
  obtain ⟨i,i1,ei⟩:=zdE hz
  rw [qaj] at ej ei
  exact Cx.le_trans (zdy hb (by omega) ei hy) (hx j x j1 j2 ej)
 ·have:=h.z
  rw [Array.size_append,Array.size_reverse,qaz]
  omega
theorem MgH.appB (h:MgH c a b out na nb) (ha:srt c a) (hb:srt c b) {x:Keyed} (n0:0<na) (hx:a[na - 1]? = some x) (hk:at'<=nb)
  (hy: ∀ i y,at'<=i->i<nb->b[i]? = some y->c.le x y):MgH c a b (out++(b.extract at' nb).reverse) na at':=by
 have hlb:=h.lb
 refine ⟨?_,?_,h.la,by omega⟩
 ·have hm:=h.m.symm
  have hp:=zfN nb hb
  rw [zeL hk] at hm hp
  rw [zi9]
  refine (hm.stepL hp ?_).symm
  intro y hym z hz
  obtain ⟨j,j1,j2,ej⟩:=zct hym
  obtain ⟨i,i1,ei⟩:=zdE hz
  rw [qaj] at ej ei
  exact Cx.le_trans (zdy ha (by omega) ei hx) (hy j y j1 j2 ej)
 ·have:=h.z
  rw [Array.size_append,Array.size_reverse,qaz]
  omega
theorem zhr {x:Keyed} (n0:0<na) (hx:a[na - 1]? = some x):out.push x=out++(a.extract (na - 1) na).reverse:=by
 rw [zeO hx,Nat.sub_add_cancel n0]
 congr 1
 apply Array.ext'
 obtain ⟨hi,rfl⟩:=qab.mp hx
 rw [Array.toList_reverse]
 simp only [Array.toList_extract,List.extract]
 rw [show na - (na - 1)=1 by omega,qae (by simpa using hi)]
 simp
theorem MgH.pushA (h:MgH c a b out na nb) (ha:srt c a) (hb:srt c b) {x y:Keyed} (n0:0<nb) (n1:0<na) (hx:a[na - 1]? = some x) (hy:b[nb - 1]? = some y) (hxy:c.le y x):MgH c a b (out.push x) (na - 1) nb:=by
 rw [zhr n1 hx]
 refine h.appA ha hb n0 hy (Nat.sub_le _ _) ?_
 intro i z h1 h2 hz
 have:i=na - 1:=by omega
 subst this
 rw [hx] at hz
 cases hz
 exact hxy
theorem MgH.pushB (h:MgH c a b out na nb) (ha:srt c a) (hb:srt c b) {x y:Keyed} (n0:0<nb) (n1:0<na) (hx:a[na - 1]? = some x) (hy:b[nb - 1]? = some y) (hxy:c.le x y):MgH c a b (out.push y) na (nb - 1):=by
 rw [zhr n0 hy]
 refine h.appB ha hb n1 hx (Nat.sub_le _ _) ?_
 intro i z h1 h2 hz
 have:i=nb - 1:=by omega
 subst this
 rw [hy] at hz
 cases hz
 exact hxy
theorem zj7 {r:List Keyed} {O L R T:List Keyed} (h:Mg (fun x y=>c.le y x) O L R T) (hs:(L++R).Pairwise (fun x y=>c.le y x)) (e:r=(O++(L++R)).reverse):r.Pairwise c.le/\r.Perm T:=by
 obtain ⟨h1,h2⟩:=h.fin hs
 subst e
 exact ⟨by rw [List.pairwise_reverse];exact h1,(List.reverse_perm _).trans h2⟩
theorem MgH.done (h:MgH c a b out na nb) (ha:srt c a) (hb:srt c b) (he:na=0\/nb=0):Fi c a b (a.extract 0 na++b.extract 0 nb++out.reverse):=by
 have hs:((b.toList.take nb).reverse++(a.toList.take na).reverse).Pairwise (fun x y=>c.le y x):=by
  rcases he with he | he
  ·subst he;simpa using zfN nb hb
  ·subst he;simpa using zfN na ha
 exact zj7 h.m.symm hs (by simp [List.extract])
theorem MgH.first (h:MgH c a b out na nb) (ha:srt c a) (_hb:srt c b) (he:nb=1) (hl: ∀ y,b[0]? = some y-> ∀ x,x∈a.toList->c.le y x):Fi c a b (b.extract 0 nb++a.extract 0 na++out.reverse):=by
 subst he
 have hlb:=h.lb
 have ed:b.toList.take 1=[b[0]]:=by
  obtain ⟨l⟩:=b
  cases l with
  | nil=>simp at hlb
  | cons x l=>simp
 have hs:((a.toList.take na).reverse++(b.toList.take 1).reverse).Pairwise (fun x y=>c.le y x):=by
  rw [ed,qaq]
  refine ⟨zfN na ha,List.pairwise_singleton _ _,?_⟩
  intro x hx y hy
  rw [List.mem_singleton.mp hy]
  exact hl _ (getElem?_pos b 0 (by omega)) x (List.mem_of_mem_take (List.mem_reverse.mp hx))
 exact zj7 h.m hs (by simp [List.extract])
noncomputable abbrev H5:=Option (Array Keyed)×Nat×Nat×Array Keyed×Nat
noncomputable abbrev H6:=Option (Array Keyed)×Nat×Nat×Array Keyed×Nat×Nat
noncomputable abbrev H7:=Option (Array Keyed)×Nat×Nat×Array Keyed×Nat×Nat×Nat
def Hi (c:Cx) (a b:Array Keyed) (N:Nat) (p q:Nat) (o:Array Keyed):Prop:=MgH c a b o p q/\0<p/\1<q/\N<=o.size
structure Ey (c:Cx) (a b:Array Keyed) (N:Nat) (Q:ForInStep H7->SortSt->Prop) (st:SortSt):Prop where
 d1: ∀ res t,Fi c a b res->Q (.done (some res,t)) st
 d2: ∀ p q o t,Hi c a b N p q o->Q (.done (none,p,q,o,t)) st/\Q (.yield (none,p,q,o,t)) st
 hl: ∀ (o:Array Keyed) (i j:Nat),MgH c a b o i j->j=1->Fi c a b (b.extract 0 j++a.extract 0 i++o.reverse)
 ha:srt c a
 hb:srt c b
 oa:okA c a
 ob:okA c b
 hk:kindOf st=c.kd
noncomputable def U4 (a b:Array Keyed) (p q:Nat) (o:Array Keyed) (g k l:Nat):StateT SortSt Sem (ForInStep H7):=El a (p - 1)>>=fun z=>
 if (p - 1==0)=true then pure (.done (some (a.extract 0 (p - 1)++b.extract 0 q++(o.push z).reverse),p - 1,q,o.push z,g,k,l))
 else if (decide (k<7) && decide (l<7))=true then pure (.done (none,p - 1,q,o.push z,g,k,l)) else pure (.yield (none,p - 1,q,o.push z,g,k,l))
noncomputable def U3 (a b:Array Keyed) (p q:Nat) (o:Array Keyed) (g k v:Nat):StateT SortSt Sem (ForInStep H7):=El b (q - 1)>>=fun y=>
 if (q - 1==1)=true then pure (.done (some (b.extract 0 (q - 1)++a.extract 0 p++(o.push y).reverse),p,q - 1,o.push y,g,k,v))
 else El a (p - 1)>>=fun z=>Ga true z b 0 (q - 1) (q - 1 - 1)>>=fun x=>match x with
  | some l=>if q - 1 - l>0 then
    if (l==1)=true then pure (.done (some (b.extract 0 l++a.extract 0 p++(o.push y++(b.extract l (q - 1)).reverse).reverse),p,l,o.push y++(b.extract l (q - 1)).reverse,g,k,q - 1 - l))
    else if (l==0)=true then pure (.done (some (a.extract 0 p++b.extract 0 l++(o.push y++(b.extract l (q - 1)).reverse).reverse),p,l,o.push y++(b.extract l (q - 1)).reverse,g,k,q - 1 - l))
    else U4 a b p l (o.push y++(b.extract l (q - 1)).reverse) g k (q - 1 - l)
   else U4 a b p (q - 1) (o.push y) g k (q - 1 - l)
  | _=>pure (.done (some (a.extract 0 p++b.extract 0 (q - 1)++(o.push y).reverse),p,q - 1,o.push y,g,k,v))
noncomputable def U2 (a b:Array Keyed) (p q:Nat) (o:Array Keyed) (g u v:Nat):StateT SortSt Sem (ForInStep H7):=El b (q - 1)>>=fun y=>Ga false y a 0 p (p - 1)>>=fun x=>match x with
  | some k=>if p - k>0 then
    if (k==0)=true then pure (.done (some (a.extract 0 k++b.extract 0 q++(o++(a.extract k p).reverse).reverse),k,q,o++(a.extract k p).reverse,g,p - k,v))
    else U3 a b k q (o++(a.extract k p).reverse) g (p - k) v
   else U3 a b p q o g (p - k) v
  | _=>pure (.done (some (a.extract 0 p++b.extract 0 q++o.reverse),p,q,o,g,u,v))
noncomputable def Z1 (a b:Array Keyed) (g:Nat) (p q:Nat) (o:Array Keyed) (u v:Nat):StateT SortSt Sem (ForInStep H6):=El b (q - 1)>>=fun y=>El a (p - 1)>>=fun z=>Lt y z>>=fun x=>match x with
 | some w=>if w=true then El a (p - 1)>>=fun z=>if (p - 1==0)=true then pure (.done (some (a.extract 0 (p - 1)++b.extract 0 q++(o.push z).reverse),p - 1,q,o.push z,u+1,0)) else if u+1>=g then pure (.done (none,p - 1,q,o.push z,u+1,0)) else pure (.yield (none,p - 1,q,o.push z,u+1,0))
  else El b (q - 1)>>=fun y=>if (q - 1==1)=true then pure (.done (some (b.extract 0 (q - 1)++a.extract 0 p++(o.push y).reverse),p,q - 1,o.push y,0,v+1)) else if v+1>=g then pure (.done (none,p,q - 1,o.push y,0,v+1)) else pure (.yield (none,p,q - 1,o.push y,0,v+1))
 | _=>pure (.done (some (a.extract 0 p++b.extract 0 q++o.reverse),p,q,o,u,v))
noncomputable def Z2 (a b:Array Keyed) (p q:Nat) (o:Array Keyed) (g u v:Nat):StateT SortSt Sem (ForInStep H7):=
 if g>1 then Sg (g - 1)>>=fun _=>U2 a b p q o (g - 1) u v else Sg g>>=fun _=>U2 a b p q o g u v
noncomputable def Z5 (r:H7):StateT SortSt Sem (ForInStep H5):=match r.1 with
 | some x=>pure (.done (some x,r.2.1,r.2.2.1,r.2.2.2.1,r.2.2.2.2.1))
 | none=>Sg (r.2.2.2.2.1+1)>>=fun _=>pure (.yield (none,r.2.1,r.2.2.1,r.2.2.2.1,r.2.2.2.2.1+1))
noncomputable def Z4 (a b:Array Keyed) (g:Nat) (r:H6):StateT SortSt Sem (ForInStep H5):=match r.1 with
 | some x=>pure (.done (some x,r.2.1,r.2.2.1,r.2.2.2.1,g))
 | none=>(liftM (rule "list.sort.gallop"):StateT SortSt Sem Unit)>>=fun _=>forIn [0:a.size+b.size] ((none,r.2.1,r.2.2.1,r.2.2.2.1,g+1,r.2.2.2.2.1,r.2.2.2.2.2):H7) (fun _ r=>Z2 a b r.2.1 r.2.2.1 r.2.2.2.1 r.2.2.2.2.1 r.2.2.2.2.2.1 r.2.2.2.2.2.2)>>=fun r=>Z5 r
noncomputable def Z3 (a b:Array Keyed) (p q:Nat) (o:Array Keyed) (g:Nat):StateT SortSt Sem (ForInStep H5):=
 forIn [0:a.size+b.size] ((none,p,q,o,0,0):H6) (fun _ r=>Z1 a b g r.2.1 r.2.2.1 r.2.2.2.1 r.2.2.2.2.1 r.2.2.2.2.2)>>=fun r=>Z4 a b g r
noncomputable def MH' (a b:Array Keyed):StateT SortSt Sem (Array Keyed):=(liftM (rule "list.sort.merge-hi"):StateT SortSt Sem Unit)>>=fun _=>El a (a.size - 1)>>=fun z=>
 if (a.size - 1==0)=true then pure (a.extract 0 (a.size - 1)++b.extract 0 b.size++(#[z]:Array Keyed).reverse) else if (b.size==1)=true then pure (b.extract 0 b.size++a.extract 0 (a.size - 1)++(#[z]:Array Keyed).reverse)
 else get>>=fun st=>forIn [0:a.size+b.size] ((none,a.size - 1,b.size, #[z],zr3 st):H5) (fun _ r=>Z3 a b r.2.1 r.2.2.1 r.2.2.2.1 r.2.2.2.2)>>=fun r=>match r.1 with
  | some x=>pure x
  | none=>liftM (unsupported "internal:list.sort.merge-bound":Sem (Array Keyed))
theorem zrQ (a b:Array Keyed):MH a b=MH' a b:=by
 refine bnd rfl fun _=>bnd rfl fun y=> ?_
 by_cases h1:(a.size - 1==0)=true
 ·exact (qa4 h1).trans (qa4 h1).symm
 refine (qa5 h1).trans (Eq.trans ?_ (qa5 h1).symm)
 by_cases h2:(b.size==1)=true
 ·exact (qa4 h2).trans (qa4 h2).symm
 refine (qa5 h2).trans (Eq.trans ?_ (qa5 h2).symm)
 refine bnd rfl fun st=>bnd (zoh fun _ r=> ?_) fun r=> ?_
 ·refine bnd (zoh fun _ r=> ?_) fun r'=> ?_
  ·rfl
  ·obtain ⟨q,r'⟩:=r'
   cases q with
   | some x=>rfl
   | none=>
    refine bnd rfl fun _=>bnd (zoh fun _ r=> ?_) fun r3=> ?_
    ·rfl
    ·obtain ⟨q,r'⟩:=r3
     cases q with
     | some x=>rfl
     | none=>rfl
 ·obtain ⟨q,r⟩:=r
  cases q with
  | some x=>rfl
  | none=>rfl
section
variable {N:Nat} {Q:ForInStep H7->SortSt->Prop} {st:SortSt} {o:Array Keyed} {p q g k l u v:Nat}
theorem zpn (x:Ey c a b N Q st) (m:Hi c a b N p q o) {z w:Keyed} (ew:b[q - 1]? = some w) (ez:a[p - 1]? = some z) (lwz:c.le w z):c.wp (U4 a b p q o g k l) Q st:=by
 obtain ⟨m,b1,b2,b3⟩:=m
 refine qa2 (zby ez ?_)
 have m2:=m.pushA x.ha x.hb (by omega) b1 ez ew lwz
 have d:=fun b1=>x.d2 _ _ _ (g,k,l) ⟨m2,b1,b2,by rw [Array.size_push];omega⟩
 exact zaY (fun p3=>qa3 (x.d1 _ _ (m2.done x.ha x.hb (.inl p3)))) (fun p3=>zaA (fun _=>qa3 (d (by omega)).1) (fun _=>qa3 (d (by omega)).2))
theorem zp0 (x:Ey c a b N Q st) (m:Hi c a b N p q o) {y z:Keyed} (ey:b[q - 1]? = some y) (ez:a[p - 1]? = some z) (oz:c.ok z.1) (lzy:c.le z y):c.wp (U3 a b p q o g k v) Q st:=by
 obtain ⟨m,b1,b2,b3⟩:=m
 have lb:=m.lb
 refine qa2 (zby ey ?_)
 have m2:=m.pushB x.ha x.hb (by omega) b1 ez ey lzy
 have b4:N<=(o.push y).size:=by rw [Array.size_push];omega
 refine zaY (fun t=>qa3 (x.d1 _ _ (x.hl _ _ _ m2 t))) (fun t=> ?_)
 refine qa2 (zby ez (qa2 (zhI x.hk x.hb x.ob oz (by omega) (by omega) ?_)))
 intro l hl1 hl2 hl3
 simp only [Nat.zero_add] at hl2 hl3
 have m3:=m2.appB x.ha x.hb b1 ez hl1 (fun i y h1 h2 hy=>hl3 i y h1 h2 hy)
 refine zaA (fun l0=>zaY (fun t2=>qa3 (x.d1 _ _ (x.hl _ _ _ m3 t2))) (fun t2=>zaY (fun t3=>qa3 (x.d1 _ _ (m3.done x.ha x.hb (.inr t3)))) (fun t3=> ?_))) (fun l0=> ?_)
 ·obtain ⟨f,ef,of⟩:=zbe x.ob (i:=l - 1) (by omega)
  exact zpn x ⟨m3,b1,by omega,by rw [Array.size_append];omega⟩ ef ez (Cx.le_of_lt (hl2 (l - 1) f (by omega) ef))
 ·have el:l=q - 1:=by omega
  subst el
  obtain ⟨f,ef,of⟩:=zbe x.ob (i:=q - 1 - 1) (by omega)
  exact zpn x ⟨m2,b1,by omega,b4⟩ ef ez (Cx.le_of_lt (hl2 _ f (by omega) ef))
theorem zpD (x:Ey c a b N Q st) (m:Hi c a b N p q o):c.wp (U2 a b p q o g u v) Q st:=by
 obtain ⟨m,b1,b2,b3⟩:=m
 have la:=m.la
 have lb:=m.lb
 obtain ⟨y,ey,oy⟩:=zbe x.ob (i:=q - 1) (by omega)
 refine qa2 (zby ey (qa2 (znd x.hk oy (by omega) (fun i j x' z hij _ hx hz=>zdy x.ha (by omega) hx hz) (fun i hi=>zbe x.oa (by omega)) ?_)))
 intro k hk1 hk2 hk3
 simp only [Nat.zero_add] at hk2 hk3
 have m2:=m.appA x.ha x.hb (by omega) ey hk1 (fun i x h1 h2 hx=>Cx.le_of_lt (hk3 i x h1 h2 hx))
 refine zaA (fun k0=>zaY (fun w=>qa3 (x.d1 _ _ (m2.done x.ha x.hb (.inl w)))) (fun w=> ?_)) (fun k0=> ?_)
 ·obtain ⟨z,ez,oz⟩:=zbe x.oa (i:=k - 1) (by omega)
  exact zp0 x ⟨m2,by omega,b2,by rw [Array.size_append];omega⟩ ey ez oz (hk2 (k - 1) z (by omega) ez)
 ·have ek:k=p:=by omega
  subst ek
  obtain ⟨z,ez,oz⟩:=zbe x.oa (i:=k - 1) (by omega)
  exact zp0 x ⟨m,b1,b2,b3⟩ ey ez oz (hk2 (k - 1) z (by omega) ez)
end
theorem zrF {st1:SortSt} {o:Array Keyed} {p q g u v N:Nat} {Q:ForInStep H6->SortSt->Prop} (hk:kindOf st1=c.kd) (ha:srt c a) (hb:srt c b) (oa:okA c a) (ob:okA c b)
  (hl: ∀ (o:Array Keyed) (i j:Nat),MgH c a b o i j->j=1->Fi c a b (b.extract 0 j++a.extract 0 i++o.reverse)) (m:Hi c a b N p q o)
  (d1: ∀ res t,Fi c a b res->Q (.done (some res,t)) st1) (d2: ∀ p q o t,Hi c a b (N+1) p q o->Q (.done (none,p,q,o,t)) st1/\Q (.yield (none,p,q,o,t)) st1):c.wp (Z1 a b g p q o u v) Q st1:=by
 obtain ⟨m1,b1,b2,b3⟩:=m
 have la:=m1.la
 have lb:=m1.lb
 obtain ⟨y,ey,oy⟩:=zbe ob (i:=q - 1) (by omega)
 obtain ⟨z,ez,oz⟩:=zbe oa (i:=p - 1) (by omega)
 refine qa2 (zby ey (qa2 (zby ez (qa2 (ziZ hk oy oz ?_)))))
 refine zaA (fun eq=>qa2 (zby ez ?_)) (fun eq=>qa2 (zby ey ?_))
 ·have m2:=m1.pushA ha hb (by omega) b1 ez ey (Cx.le_of_lt eq)
  have d:=fun t w=>d2 _ _ _ t ⟨m2,w,b2,by rw [Array.size_push];omega⟩
  exact zaY (fun w=>qa3 (d1 _ _ (m2.done ha hb (.inl w)))) (fun w=>zaA (fun _=>qa3 (d _ (by omega)).1) (fun _=>qa3 (d _ (by omega)).2))
 ·have m2:=m1.pushB ha hb (by omega) b1 ez ey (by simpa [Cx.le] using eq)
  have d:=fun t w=>d2 _ _ _ t ⟨m2,b1,w,by rw [Array.size_push];omega⟩
  exact zaY (fun w=>qa3 (d1 _ _ (hl _ _ _ m2 w))) (fun w=>zaA (fun _=>qa3 (d _ (by omega)).1) (fun _=>qa3 (d _ (by omega)).2))
theorem zrB {st st1:SortSt} {o:Array Keyed} {p q g u v N:Nat} {Q:ForInStep H7->SortSt->Prop} (s0:Sm st st1) (hk:kindOf st=c.kd) (ha:srt c a) (hb:srt c b) (oa:okA c a) (ob:okA c b)
  (hl: ∀ (o:Array Keyed) (i j:Nat),MgH c a b o i j->j=1->Fi c a b (b.extract 0 j++a.extract 0 i++o.reverse)) (m:Hi c a b N p q o)
  (d1: ∀ st' res t,Sm st st'->Fi c a b res->Q (.done (some res,t)) st') (d2: ∀ st' p q o t,Sm st st'->Hi c a b N p q o->Q (.done (none,p,q,o,t)) st'/\Q (.yield (none,p,q,o,t)) st'):c.wp (Z2 a b p q o g u v) Q st1:=by
 have E:=fun g=>Ey.mk (c:=c) (a:=a) (b:=b) (N:=N) (st:=SortSt.mk' (kindOf st1) (arrOf st1) (pendingOf st1) g (failedOf st1)) (Q:=Q) (fun res t f=>d1 _ res t (s0.g _) f) (fun p q o t m=>d2 _ p q o t (s0.g _) m) hl ha hb oa ob ((s0.g g).k.trans hk)
 exact zaA (fun _=>qa2 (zh1 (zpD (E _) m))) (fun _=>qa2 (zh1 (zpD (E _) m)))
theorem zqt {st:SortSt} {Q:Array Keyed->SortSt->Prop} (hk:kindOf st=c.kd) (ha:srt c a) (hb:srt c b) (oa:okA c a) (ob:okA c b) (na:0<a.size) (nb:0<b.size)
  (hfirst: ∀ y,b[0]? = some y-> ∀ x,x∈a.toList->c.le y x) (hlast: ∀ x y,a[a.size - 1]? = some x->b[b.size - 1]? = some y->c.le y x)
  (h: ∀ res st',Sm st st'->Fi c a b res->Q res st'):c.wp (MH a b) Q st:=by
 rw [zrQ]
 obtain ⟨y0,ey0,oy0⟩:=zbe ob (i:=b.size - 1) (by omega)
 obtain ⟨x0,ex0,ox0⟩:=zbe oa (i:=a.size - 1) (by omega)
 have hl: ∀ (o:Array Keyed) (i j:Nat),MgH c a b o i j->j=1->Fi c a b (b.extract 0 j++a.extract 0 i++o.reverse):=fun o i j hm hi=>hm.first ha hb hi hfirst
 have hst:MgH c a b #[x0] (a.size - 1) b.size:=by
  have:=(MgH.mk (c:=c) (a:=a) (b:=b) (out:= #[]) (na:=a.size) (nb:=b.size) ⟨List.Pairwise.nil,by simp,by simp,by
    simp only [List.nil_append]
    rw [<- qas, <-qas,List.take_length,List.take_length]
    exact (List.reverse_perm _).append (List.reverse_perm _)⟩ (by simp) (qaV _) (qaV _)).pushA ha hb nb na ex0 ey0 (hlast _ _ ex0 ey0)
  exact this
 refine qa2 (zds (qa2 (zby ex0 (zaY (fun h1=>qa3 (h _ _ (Sm.refl _) (hst.done ha hb (.inl h1)))) (fun h1=>zaY (fun h2=>qa3 (h _ _ (Sm.refl _) (hl _ _ _ hst h2))) (fun h2=> ?_))))))
 refine qa2 (wpS_get ?_)
 refine qa2 (wpS_mono (wpS_forRange (I:=fun x r st'=>r.1=none/\Sm st st'/\Hi c a b (x+1) r.2.1 r.2.2.1 r.2.2.2.1) (Q:=fun r st'=> ∃ res,r.1=some res/\Sm st st'/\Fi c a b res) ?_ ?_ ⟨rfl,Sm.refl _,hst,show 0<a.size - 1 by omega,show 1<b.size by omega,qaV _⟩) ?_)
 ·rintro xo r st1 - hx1 ⟨-, s1,m1⟩
  refine qa2 (wpS_mono (wpS_forRange (I:=fun x r st'=>r.1=none/\Sm st st'/\Hi c a b (xo+1+x) r.2.1 r.2.2.1 r.2.2.2.1)
    (Q:=fun r st'=>(∃ res,r.1=some res/\Sm st st'/\Fi c a b res)\/(r.1=none/\Sm st st'/\Hi c a b (xo+2) r.2.1 r.2.2.1 r.2.2.2.1)) ?_ ?_ ⟨rfl,s1,m1⟩) ?_)
  ·rintro x r st1 - hx2 ⟨-, s1,m1⟩
   refine zrF (s1.k.trans hk) ha hb oa ob hl m1 (fun res t f=> .inl ⟨res,rfl,s1,f⟩) fun p q o t m=>⟨.inr ⟨rfl,s1,m.1,m.2.1,m.2.2.1,?_⟩,⟨rfl,s1,m⟩⟩
   have:=m.2.2.2
   show xo+2<=o.size
   omega
  ·rintro r st1 ⟨e,s1,m1,b1,b2,b3⟩
   refine .inr ⟨e,s1,m1,b1,b2,?_⟩
   omega
  ·rintro ⟨r,t⟩ st1 (⟨res,e,s1,f1⟩ | ⟨e,s1,m1⟩)
   ·cases e
    exact qa3 ⟨res,rfl,s1,f1⟩
   cases e
   refine qa2 (zds ?_)
   refine qa2 (wpS_mono (wpS_forRange (I:=fun x r st'=>r.1=none/\Sm st st'/\Hi c a b (xo+2) r.2.1 r.2.2.1 r.2.2.2.1)
     (Q:=fun r st'=>(∃ res,r.1=some res/\Sm st st'/\Fi c a b res)\/(r.1=none/\Sm st st'/\Hi c a b (xo+2) r.2.1 r.2.2.1 r.2.2.2.1)) ?_ ?_ ⟨rfl,s1,m1⟩) ?_)
   ·rintro x r st1 - hx2 ⟨-, s0,m1⟩
    exact zrB s0 hk ha hb oa ob hl m1 (fun st' res t s0 f=> .inl ⟨res,rfl,s0,f⟩) (fun st' p q o t s0 m=>⟨.inr ⟨rfl,s0,m⟩,⟨rfl,s0,m⟩⟩)
   ·rintro r st1 ⟨e,s1,m1⟩
    exact .inr ⟨e,s1,m1⟩
   ·rintro ⟨r,t⟩ st1 (⟨res,e,s1,f1⟩ | ⟨e,s1,m1⟩)
    ·cases e
     exact qa3 ⟨res,rfl,s1,f1⟩
    cases e
    exact qa2 (zh1 (qa3 ⟨rfl,s1.g _,m1⟩))
 ·rintro r st1 ⟨e,s1,m1,b1,b2,b3⟩
  have z1:=m1.z
  omega
 ·rintro ⟨r,t⟩ st1 ⟨res,e,s1,f1⟩
  cases e
  exact qa3 (h _ _ s1 f1)
end
end TS
end
section
namespace TS
set_option autoImplicit false
open PySem PyProof PyProof.Rows
noncomputable abbrev MAt:Nat->StateT SortSt Sem Bool:=sortPriv% PySem.Builtin.mergeAt
theorem zmg {s:Nat}: ∀ (l:List Keyed) (n:Nat) (xs:Array Keyed),s+n+l.length<=xs.size-> ∀ k:Nat,
  ((l.zipIdx n).foldl (fun a x=>a.setIfInBounds (s+x.2) x.1) xs)[k]? = if s+n<=k/\k<s+n+l.length then l[k - (s+n)]? else xs[k]?
 | [],n,xs,_,k=>by rw [qa5 (by simp)];rfl
 | x::l,n,xs,h,k=>by
  rw [qaE] at h
  rw [List.zipIdx_cons,List.foldl_cons,zmg l (n+1) _ (by rw [Array.size_setIfInBounds];omega)]
  dsimp only
  rw [qaE,Array.getElem?_setIfInBounds]
  by_cases h1:k=s+n
  ·subst h1
   rw [qa5 (by omega),qa4 rfl,qa4 (by omega),qa4 (by omega),Nat.sub_self]
   rfl
  ·by_cases h2:s+n<=k/\k<s+n+(l.length+1)
   ·rw [qa4 h2,qa4 (by omega)]
    obtain ⟨d,hd⟩: ∃ d,k - (s+n)=d+1:=⟨k - (s+n) - 1,by omega⟩
    rw [hd,List.getElem?_cons_succ]
    congr 1
    omega
   ·rw [qa5 h2,qa5 (by omega),qa5 (by omega)]
structure Loc (xs ys:Array Keyed) (lo hi:Nat):Prop where
 p:ys.toList.Perm xs.toList
 o: ∀ i,i<lo\/hi<=i->ys[i]? = xs[i]?
theorem Loc.refl (xs:Array Keyed) (lo hi:Nat):Loc xs xs lo hi:=⟨List.Perm.refl _,fun _ _=>rfl⟩
theorem Loc.trans {xs ys zs:Array Keyed} {lo hi:Nat} (h:Loc xs ys lo hi) (h2:Loc ys zs lo hi):Loc xs zs lo hi:=⟨h2.p.trans h.p,fun i hi=>(h2.o i hi).trans (h.o i hi)⟩
theorem Loc.size {xs ys:Array Keyed} {lo hi:Nat} (h:Loc xs ys lo hi):ys.size=xs.size:=by simpa using h.p.length_eq
theorem Loc.wide {xs ys:Array Keyed} {lo hi lo' hi':Nat} (h:Loc xs ys lo hi) (h1:lo'<=lo) (h2:hi<=hi'):Loc xs ys lo' hi':=⟨h.p,fun i hi=>h.o i (by omega)⟩
section
variable {c:Cx}
def sg (c:Cx) (xs:Array Keyed) (lo hi:Nat):Prop:= ∀ i j x y,lo<=i->i<=j->j<hi->xs[i]? = some x->xs[j]? = some y->c.le x y
theorem ziY {xs:Array Keyed} {lo hi:Nat} (h:sg c xs lo hi) (hi2:hi<=xs.size):srt c (xs.extract lo hi):=by
 unfold srt
 rw [List.pairwise_iff_getElem]
 intro i j hi1 hj1 hij
 simp only [qas,qaz] at hi1 hj1
 have e: ∀ m (hm:m<(xs.extract lo hi).toList.length),xs[lo+m]? = some (xs.extract lo hi).toList[m]:=by
  intro m hm
  simp only [qas,qaz] at hm
  rw [Array.getElem_toList,Array.getElem_extract]
  exact getElem?_pos _ _ _
 exact h (lo+i) (lo+j) _ _ (by omega) (by omega) (by omega) (e i _) (e j _)
theorem zeh {xs:Array Keyed} {lo hi:Nat} {x:Keyed} (h:x∈(xs.extract lo hi).toList): ∃ p,lo<=p/\p<hi/\xs[p]? = some x:=by
 obtain ⟨m,hm,e⟩:=List.getElem_of_mem h
 simp only [qas,qaz] at hm
 rw [Array.getElem_toList,Array.getElem_extract] at e
 exact ⟨lo+m,by omega,by omega,by rw [<- e];exact getElem?_pos _ _ _⟩
theorem zdt {xs:Array Keyed} {lo hi i:Nat} {x:Keyed} (h:(xs.extract lo hi)[i]? = some x):lo+i<hi/\xs[lo+i]? = some x:=by
 obtain ⟨hm,e⟩:=qab.mp h
 simp only [qaz] at hm
 rw [Array.getElem_extract] at e
 exact ⟨by omega,by rw [<- e];exact getElem?_pos _ _ _⟩
theorem zg5 {xs:Array Keyed} {lo hi:Nat} (h:okA c xs):okA c (xs.extract lo hi):=by
 intro x hx
 obtain ⟨p,_,_,e⟩:=zeh hx
 obtain ⟨hp,rfl⟩:=qab.mp e
 exact h _ (by simp)
noncomputable def zk2 (xs m:Array Keyed) (s:Nat):Array Keyed:=m.toList.zipIdx.foldl (fun a x=>a.setIfInBounds (s+x.2) x.1) xs
theorem ze0 {xs m:Array Keyed} {s:Nat} (h:s+m.size<=xs.size) (k:Nat):(zk2 xs m s)[k]? = if s<=k/\k<s+m.size then m[k - s]? else xs[k]? := by
 have:=zmg (s:=s) m.toList 0 xs (by simpa using h) k
 simpa [zk2] using this
theorem zhL {xs m:Array Keyed} {s mid e:Nat} (h1:s<=mid) (h2:mid<=e) (he:e<=xs.size) (hm:m.toList.Perm ((xs.extract s mid).toList++(xs.extract mid e).toList)):Loc xs (zk2 xs m s) s e/\m.size=e - s:=by
 have hs:m.size=e - s:=by
  have:=hm.length_eq
  simp only [qav,qas,qaz] at this
  omega
 refine ⟨⟨?_,?_⟩,hs⟩
 ·have e1:(zk2 xs m s).toList=xs.toList.take s++(m.toList++xs.toList.drop e):=by
   apply List.ext_getElem?
   intro k
   rw [qaj,ze0 (by omega)]
   by_cases a1:k<s
   ·rw [qa5 (by omega),qad (by simp;omega),List.getElem?_take,qa4 a1,qaj]
   ·rw [qaa (by simp;omega)]
    have e3:(xs.toList.take s).length=s:=by simp;omega
    rw [e3]
    by_cases a2:k<e
    ·rw [qa4 (by omega),qad (by simp;omega),qaj]
    ·rw [qa5 (by omega),qaa (by simp;omega),List.getElem?_drop,qaj]
     congr 1
     simp only [qas]
     omega
  have e2:xs.toList=xs.toList.take s++(((xs.extract s mid).toList++(xs.extract mid e).toList)++xs.toList.drop e):=by
   apply List.ext_getElem?
   intro k
   by_cases a1:k<s
   ·rw [qad (by simp;omega),List.getElem?_take,qa4 a1]
   ·rw [qaa (by simp;omega)]
    have e3:(xs.toList.take s).length=s:=by simp;omega
    rw [e3]
    by_cases a2:k<e
    ·rw [qad (by simp;omega)]
     by_cases a3:k<mid
     ·rw [qad (by simp;omega),qaj,qaj,Array.getElem?_extract,qa4 (by omega)]
      congr 1;omega
     ·rw [qaa (by simp;omega),qaj,qaj,Array.getElem?_extract,qa4 (by simp;omega)]
      congr 1;simp;omega
    ·rw [qaa (by simp;omega),List.getElem?_drop]
     congr 1
     simp
     omega
  rw [e1]
  conv=>rhs;rw [e2]
  exact List.Perm.append_left _ (List.Perm.append_right _ hm)
 ·intro i hi
  rw [ze0 (by omega),qa5 (by omega)]
theorem zmN {xs m:Array Keyed} {sa s mid e hi:Nat} (h0:sa<=s) (h1:s<=mid) (h2:mid<=e) (h3:e<=hi) (he:hi<=xs.size) (hm:m.toList.Perm ((xs.extract s mid).toList++(xs.extract mid e).toList)) (hsr:srt c m)
  (ha:sg c xs sa mid) (hb:sg c xs mid hi)
  (g1: ∀ i j x y,sa<=i->i<s->mid<=j->j<hi->xs[i]? = some x->xs[j]? = some y->c.le x y)
  (g2: ∀ i j x y,sa<=i->i<mid->e<=j->j<hi->xs[i]? = some x->xs[j]? = some y->c.le x y):sg c (zk2 xs m s) sa hi:=by
 obtain ⟨hl,hs⟩:=zhL h1 h2 (by omega) hm
 have mem: ∀ i x,s<=i->i<e->(zk2 xs m s)[i]? = some x-> ∃ p,s<=p/\p<e/\xs[p]? = some x:=by
  intro i x i1 i2 ex
  rw [ze0 (by omega),qa4 (by omega)] at ex
  obtain ⟨hx,rfl⟩:=qab.mp ex
  have:=hm.mem_iff.mp (show m[i - s]∈m.toList by simp)
  rcases qaK.mp this with h | h
  ·obtain ⟨p,p1,p2,p3⟩:=zeh h
   exact ⟨p,p1,by omega,p3⟩
  ·obtain ⟨p,p1,p2,p3⟩:=zeh h
   exact ⟨p,by omega,p2,p3⟩
 have fir: ∀ i p x y,sa<=i->i<s->s<=p->p<hi->xs[i]? = some x->xs[p]? = some y->c.le x y:=by
  intro i p x y i1 i2 p1 p2 ex ey
  by_cases hp:p<mid
  ·exact ha i p x y i1 (by omega) hp ex ey
  ·exact g1 i p x y i1 i2 (by omega) p2 ex ey
 have las: ∀ p j x y,sa<=p->p<e->e<=j->j<hi->xs[p]? = some x->xs[j]? = some y->c.le x y:=by
  intro p j x y p1 p2 j1 j2 ex ey
  by_cases hp:p<mid
  ·exact g2 p j x y p1 hp j1 j2 ex ey
  ·exact hb p j x y (by omega) (by omega) j2 ex ey
 intro i j x y i1 i2 i3 ex ey
 by_cases a1:i<s
 ·rw [hl.o i (.inl a1)] at ex
  by_cases b1:j<s
  ·rw [hl.o j (.inl b1)] at ey
   exact ha i j x y i1 i2 (by omega) ex ey
  ·by_cases b2:j<e
   ·obtain ⟨p,p1,p2,p3⟩:=mem j y (by omega) b2 ey
    exact fir i p x y i1 a1 p1 (by omega) ex p3
   ·rw [hl.o j (.inr (by omega))] at ey
    exact fir i j x y i1 a1 (by omega) i3 ex ey
 ·by_cases a2:i<e
  ·by_cases b2:j<e
   ·rw [ze0 (by omega),qa4 (by omega)] at ex ey
    exact zdy hsr (by omega) ex ey
   ·obtain ⟨p,p1,p2,p3⟩:=mem i x (by omega) a2 ex
    rw [hl.o j (.inr (by omega))] at ey
    exact las p j x y (by omega) p2 (by omega) i3 p3 ey
  ·rw [hl.o i (.inr (by omega))] at ex
   rw [hl.o j (.inr (by omega))] at ey
   exact hb i j x y (by omega) i2 i3 ex ey
theorem znE {Q:PUnit->SortSt->Prop} {st st1:SortSt} (h:Q ⟨⟩ st1):c.wp (set st1:StateT SortSt Sem PUnit) Q st:=by
 show wpS _ _ _ _ _ _ _
 unfold wpS;rw [StateT.run_set];exact qaX ⟨rfl,h⟩
theorem zrT {st:SortSt} {i sa na nb pa pb:Nat} {Q:Bool->SortSt->Prop} (hk:kindOf st=c.kd) (hfl:failedOf st=none) (hok:okA c (arrOf st))
  (hi:(pendingOf st)[i]? = some (sa,na,pa)) (hj:(pendingOf st)[i+1]? = some (sa+na,nb,pb)) (n1:0<na) (n2:0<nb) (hsz:sa+na+nb<=(arrOf st).size)
  (ha:sg c (arrOf st) sa (sa+na)) (hb:sg c (arrOf st) (sa+na) (sa+na+nb))
  (h: ∀ st',kindOf st'=c.kd->failedOf st'=none->pendingOf st'=((pendingOf st).setIfInBounds i (sa,na+nb,pa)).eraseIdxIfInBounds (i+1)->Loc (arrOf st) (arrOf st') sa (sa+na+nb)->sg c (arrOf st') sa (sa+na+nb)->Q true st'):
  c.wp (MAt i) Q st:=by
 refine qa2 (wpS_get ?_)
 dsimp only
 rw [hi,hj]
 dsimp only
 refine qa2 (znE ?_)
 refine (fun H: ∀ st1,kindOf st1=c.kd->failedOf st1=none->arrOf st1=arrOf st->pendingOf st1=((pendingOf st).setIfInBounds i (sa,na+nb,pa)).eraseIdxIfInBounds (i+1)->c.wp _ Q st1=>H (SortSt.mk' (kindOf st) (arrOf st) (((pendingOf st).setIfInBounds i (sa,na+nb,pa)).eraseIdxIfInBounds (i+1)) (gallopOf st) (failedOf st)) hk hfl rfl rfl) ?_
 intro st1 k1 f1 a1 p1
 clear hi hj
 obtain ⟨y,ey,oy⟩:=zbe hok (i:=sa+na) (by omega)
 refine qa2 (zby ey (qa2 (znd k1 oy n1 (fun i j x z hij hj hx hz=>ha _ _ x z (by omega) (by omega) (by omega) hx hz) (fun i hi=>zbe hok (by omega)) ?_)))
 intro k hk1 hk2 hk3
 have g1: ∀ p q x z,sa<=p->p<sa+k->sa+na<=q->q<sa+na+nb->(arrOf st)[p]? = some x->(arrOf st)[q]? = some z->c.le x z:=by
  intro p q x z h1 h2 h3 h4 ex ez
  exact Cx.le_trans (hk2 (p - sa) x (by omega) (by rw [show sa+(p - sa)=p by omega];exact ex)) (hb (sa+na) q y z (by omega) h3 h4 ey ez)
 refine zaY (fun q=> ?_) (fun q=> ?_)
 ·refine qa3 (h st1 k1 f1 p1 (by rw [a1];exact Loc.refl _ _ _) ?_)
  rw [a1]
  intro p r x z h1 h2 h3 ex ez
  by_cases hr:r<sa+na
  ·exact ha p r x z h1 h2 hr ex ez
  ·by_cases hp:p<sa+na
   ·exact g1 p r x z h1 (by omega) (by omega) h3 ex ez
   ·exact hb p r x z (by omega) h2 h3 ex ez
 obtain ⟨z,ez,oz⟩:=zbe hok (i:=sa+na - 1) (by omega)
 have ez':(arrOf st)[sa+k+(na - k) - 1]? = some z:=by rw [<- ez];congr 1;omega
 refine qa2 (zby ez' (qa2 (zpU k1 oz (by omega) (fun i j x z hij hj hx hz=>hb _ _ x z (by omega) (by omega) (by omega) hx hz) (fun i hi=>zbe hok (by omega)) ?_)))
 intro l hl1 hl2 hl3
 have g2: ∀ p q x w,sa<=p->p<sa+na->sa+na+l<=q->q<sa+na+nb->(arrOf st)[p]? = some x->(arrOf st)[q]? = some w->c.le x w:=by
  intro p q x w h1 h2 h3 h4 ex ew
  exact Cx.le_trans (ha p (sa+na - 1) x z h1 (by omega) (by omega) ex ez) (hl3 (q - (sa+na)) w (by omega) (by omega) (by rw [show sa+na+(q - (sa+na))=q by omega];exact ew))
 refine zaY (fun q2=> ?_) (fun q2=> ?_)
 ·refine qa3 (h st1 k1 f1 p1 (by rw [a1];exact Loc.refl _ _ _) ?_)
  rw [a1]
  intro p r x w h1 h2 h3 ex ew
  by_cases hr:r<sa+na
  ·exact ha p r x w h1 h2 hr ex ew
  ·by_cases hp:p<sa+na
   ·exact g2 p r x w h1 hp (by omega) h3 ex ew
   ·exact hb p r x w (by omega) h2 h3 ex ew
 have sA:srt c ((arrOf st).extract (sa+k) (sa+na)):=ziY (fun i j x y h1 h2 h3=>ha i j x y (by omega) h2 h3) (by omega)
 have sB:srt c ((arrOf st).extract (sa+na) (sa+na+l)):=ziY (fun i j x y h1 h2 h3=>hb i j x y h1 h2 (by omega)) (by omega)
 have zA:((arrOf st).extract (sa+k) (sa+na)).size=na - k:=by rw [qaz];omega
 have zB:((arrOf st).extract (sa+na) (sa+na+l)).size=l:=by rw [qaz];omega
 have pA:0<((arrOf st).extract (sa+k) (sa+na)).size:=by omega
 have pB:0<((arrOf st).extract (sa+na) (sa+na+l)).size:=by omega
 have fstB: ∀ p x,sa+k<=p->p<sa+na->(arrOf st)[p]? = some x->c.le y x:=by
  intro p x h1 h2 ex
  exact Cx.le_of_lt (hk3 (p - sa) x (by omega) (by omega) (by rw [show sa+(p - sa)=p by omega];exact ex))
 have lstA: ∀ p x,sa+na<=p->p<sa+na+l->(arrOf st)[p]? = some x->c.le x z:=by
  intro p x h1 h2 ex
  exact Cx.le_of_lt (hl2 (p - (sa+na)) x (by omega) (by rw [show sa+na+(p - (sa+na))=p by omega];exact ex))
 have fin: ∀ (res:Array Keyed) (st':SortSt),Sm st1 st'->Fi c ((arrOf st).extract (sa+k) (sa+na)) ((arrOf st).extract (sa+na) (sa+na+l)) res->
   c.wp (modify (fun s=>SortSt.mk' (kindOf s) (zk2 (arrOf s) res (sa+k)) (pendingOf s) (gallopOf s) (failedOf s))>>=fun _=>get>>=fun s=>pure (failedOf s).isNone) Q st':=by
  intro res st' hs hf
  refine qa2 (wpS_modify (qa2 (wpS_get (qa3 ?_))))
  have e:(failedOf st').isNone=true:=by rw [hs.f,f1];rfl
  show Q (failedOf st').isNone _
  rw [e]
  refine h _ (hs.k.trans k1) (hs.f.trans f1) (hs.p.trans p1) ?_ ?_
  ·show Loc _ (zk2 (arrOf st') res (sa+k)) _ _
   rw [hs.a,a1]
   exact (zhL (by omega) (by omega) (by omega) hf.2).1.wide (by omega) (by omega)
  ·show sg c (zk2 (arrOf st') res (sa+k)) _ _
   rw [hs.a,a1]
   exact zmN (by omega) (by omega) (by omega) (by omega) hsz hf.2 hf.1 ha hb g1 g2
 refine zaA (fun _=> ?_) (fun _=> ?_)
 ·refine qa2 (zrH k1 sA sB (zg5 hok) (zg5 hok) pA pB ?_ ?_ fin)
  ·intro x w ex ew
   obtain ⟨_,ex⟩:=zdt ex
   obtain ⟨_,ew⟩:=zdt ew
   rw [Nat.add_zero,ey] at ew
   cases ew
   exact fstB _ x (by omega) (by omega) ex
  ·intro x ex w hw
   obtain ⟨_,ex⟩:=zdt ex
   rw [show sa+k+(((arrOf st).extract (sa+k) (sa+na)).size - 1)=sa+na - 1 by omega,ez] at ex
   cases ex
   obtain ⟨p,p1,p2,p3⟩:=zeh hw
   exact lstA p w p1 p2 p3
 ·refine qa2 (zqt k1 sA sB (zg5 hok) (zg5 hok) pA pB ?_ ?_ fin)
  ·intro w ew x hx
   obtain ⟨_,ew⟩:=zdt ew
   rw [Nat.add_zero,ey] at ew
   cases ew
   obtain ⟨p,p1,p2,p3⟩:=zeh hx
   exact fstB p x p1 p2 p3
  ·intro x w ex ew
   obtain ⟨_,ex⟩:=zdt ex
   obtain ⟨_,ew⟩:=zdt ew
   rw [show sa+k+(((arrOf st).extract (sa+k) (sa+na)).size - 1)=sa+na - 1 by omega,ez] at ex
   cases ex
   exact lstA _ w (by omega) (by omega) ew
end
end TS
end
section
namespace TS
set_option autoImplicit false
open PySem PyProof PyProof.Rows
noncomputable abbrev CR:Nat->Nat->StateT SortSt Sem (Option Nat):=sortPriv% PySem.Builtin.countRun
noncomputable abbrev BS:Nat->Nat->Nat->StateT SortSt Sem Bool:=sortPriv% PySem.Builtin.binarySort
noncomputable abbrev LtA:Nat->Nat->StateT SortSt Sem (Option Bool):=sortPriv% PySem.Builtin.ltAt
noncomputable abbrev RS:Nat->Nat->StateT SortSt Sem Unit:=sortPriv% PySem.Builtin.reverseSlice
noncomputable abbrev MD:Nat->Nat->StateT SortSt Sem Unit:=sortPriv% PySem.Builtin.moveDown
structure St (c:Cx) (a0:Array Keyed) (p0:Array (Nat×Nat×Nat)) (lo hi:Nat) (st:SortSt):Prop where
 k:kindOf st=c.kd
 f:failedOf st=none
 p:pendingOf st=p0
 l:Loc a0 (arrOf st) lo hi
section
variable {c:Cx} {a0:Array Keyed} {p0:Array (Nat×Nat×Nat)} {lo hi:Nat}
noncomputable def KV (c:Cx) (xs:Array Keyed) (i:Nat):c.O.α:=c.ky (xs[i]?.getD (.none,.none)).1
def up (c:Cx) (xs:Array Keyed) (lo hi:Nat):Prop:= ∀ i j,lo<=i->i<=j->j<hi->c.O.kle (KV c xs i) (KV c xs j)
def dn (c:Cx) (xs:Array Keyed) (lo hi:Nat):Prop:= ∀ i j,lo<=i->i<=j->j<hi->c.O.kle (KV c xs j) (KV c xs i)
def ek (c:Cx) (xs:Array Keyed) (lo hi:Nat):Prop:= ∀ i,lo<=i->i<hi->KV c xs i=KV c xs (hi - 1)
theorem zqG {xs:Array Keyed} (h:up c xs lo hi):sg c xs lo hi:=by
 intro i j x y h1 h2 h3 ex ey
 have:=h i j h1 h2 h3
 unfold KV at this
 rw [ex,ey] at this
 exact this
theorem zcO {xs ys:Array Keyed} {i j:Nat} (h:xs[i]? = ys[j]?):KV c xs i=KV c ys j:=by unfold KV;rw [h]
theorem zpf {xs:Array Keyed} {n:Nat} (n0:0<n) (h:up c xs lo (lo+n)) (hl:c.O.blt (KV c xs (lo+n)) (KV c xs (lo+n - 1))=false):up c xs lo (lo+(n+1)):=by
 intro i j h1 h2 h3
 by_cases hj:j<lo+n
 ·exact h i j h1 h2 hj
 ·have:j=lo+n:=by omega
  subst this
  by_cases hi:i=lo+n
  ·subst hi;exact KeyOrd.kle_refl _
  ·exact KeyOrd.kle_trans (h i (lo+n - 1) h1 (by omega) (by omega)) hl
theorem zhv {xs:Array Keyed} {n:Nat} (n0:0<n) (h:dn c xs lo (lo+n)) (hl:c.O.kle (KV c xs (lo+n)) (KV c xs (lo+n - 1))):dn c xs lo (lo+(n+1)):=by
 intro i j h1 h2 h3
 by_cases hj:j<lo+n
 ·exact h i j h1 h2 hj
 ·have:j=lo+n:=by omega
  subst this
  by_cases hi:i=lo+n
  ·subst hi;exact KeyOrd.kle_refl _
  ·exact KeyOrd.kle_trans hl (h i (lo+n - 1) h1 (by omega) (by omega))
theorem ziR {xs:Array Keyed} {i j:Nat} (hj:j<=xs.size) (k:Nat):KV c (mirror xs i j ((j - i) / 2)) k=if i<=k/\k<j then KV c xs (i+j - 1 - k) else KV c xs k:=by
 have e:=getElem?_mirror_all (i:=i) hj k
 by_cases h:i<=k/\k<j
 ·rw [qa4 h] at e ⊢; exact zcO e
 ·rw [qa5 h] at e ⊢; exact zcO e
theorem zd1 {xs:Array Keyed} {i j:Nat} (hj:j<=xs.size) (h:ek c xs i j) (k:Nat):KV c (mirror xs i j ((j - i) / 2)) k=KV c xs k:=by
 rw [ziR hj]
 by_cases h1:i<=k/\k<j
 ·rw [qa4 h1,h (i+j - 1 - k) (by omega) (by omega),h k h1.1 h1.2]
 ·rw [qa5 h1]
theorem zfe {xs:Array Keyed} {i j:Nat} (hj:j<=xs.size) (h1:lo<=i) (h2:j<=hi):Loc xs (mirror xs i j ((j - i) / 2)) lo hi:=by
 refine ⟨Array.perm_iff_toList_perm.mp (mirror_perm _ _ _ _),fun k hk=> ?_⟩
 rw [getElem?_mirror_all hj,qa5 (by omega)]
theorem St.set {st:SortSt} {xs:Array Keyed} (h:St c a0 p0 lo hi st) (hl:Loc (arrOf st) xs lo hi):St c a0 p0 lo hi (setArr st xs):=⟨h.k,h.f,h.p,h.l.trans hl⟩
theorem St.ok {st:SortSt} (h:St c a0 p0 lo hi st) (ho:okA c a0):okA c (arrOf st):=fun x hx=>ho x (h.l.p.mem_iff.mp hx)
theorem zfx {st:SortSt} {i j:Nat} {Q:Option Bool->SortSt->Prop} (h:St c a0 p0 lo hi st) (ho:okA c a0) (hi:i<a0.size) (hj:j<a0.size)
  (hq:Q (some (c.O.blt (KV c (arrOf st) i) (KV c (arrOf st) j))) st):c.wp (LtA i j) Q st:=by
 have hz:=h.l.size
 obtain ⟨x,ex,ox⟩:=zbe (h.ok ho) (i:=i) (by omega)
 obtain ⟨y,ey,oy⟩:=zbe (h.ok ho) (i:=j) (by omega)
 refine qa2 (wpS_get ?_)
 refine qa2 (zby ex (qa2 (zby ey (ziZ h.k ox oy ?_))))
 unfold KV at hq
 rw [ex,ey] at hq
 exact hq
theorem zkl {st:SortSt} {i j:Nat} {Q:Unit->SortSt->Prop} (h:Q () (setArr st (mirror (arrOf st) i j ((j - i) / 2)))):c.wp (RS i j) Q st:=wpS_modify h
theorem zqS {st:SortSt} {i j:Nat} {Q:Unit->SortSt->Prop} (h:Q () (setArr st (bubble (arrOf st) i (i - j)))):c.wp (MD i j) Q st:=wpS_modify h
theorem ziQ {st:SortSt} {nrem n:Nat} (h:St c a0 p0 lo (lo+nrem) st) (ho:okA c a0) (hz:lo+nrem<=a0.size) (n0:0<n) (hn:n<=nrem) (hu:up c (arrOf st) lo (lo+n)):
  c.wp (forIn [n:nrem] ((none:Option (Option Nat)),n) fun _ r=>LtA (lo+r.2) (lo+r.2 - 1)>>=fun y=>match y with
    | some s=>if s=true then pure (ForInStep.done (none,r.2)) else pure (ForInStep.yield (none,r.2+1))
    | _=>pure (ForInStep.done (some none,r.2)))
   (fun r st'=>st'=st/\r.1=none/\n<=r.2/\r.2<=nrem/\up c (arrOf st) lo (lo+r.2)/\(r.2=nrem\/c.O.klt (KV c (arrOf st) (lo+r.2)) (KV c (arrOf st) (lo+r.2 - 1)))) st:=by
 refine wpS_forRange (I:=fun x r st'=>st'=st/\r.1=none/\r.2=x/\n<=r.2/\up c (arrOf st) lo (lo+r.2)) ?_ ?_ ⟨rfl,rfl,rfl,qaV _,hu⟩
 ·rintro x ⟨r,m⟩ st' h1 h2 ⟨e1,e2,e3,e4,e5⟩
  dsimp only at e1 e2 e3 e4 e5 ⊢
  subst e1 e2 e3
  refine qa2 (zfx h ho (by omega) (by omega) ?_)
  refine zaA (fun q=> ?_) (fun q=> ?_)
  ·exact qa3 ⟨rfl,rfl,e4,by dsimp only;omega,e5,.inr q⟩
  ·exact qa3 ⟨rfl,rfl,rfl,by dsimp only;omega,zpf (by omega) e5 (by simpa using q)⟩
 ·rintro ⟨r,m⟩ st' ⟨e1,e2,e3,e4,e5⟩
  dsimp only at e1 e2 e3 e4 e5 ⊢
  have:m=nrem:=by omega
  exact ⟨e1,e2,e4,by omega,e5,.inl this⟩
theorem zlA {st:SortSt} {nrem:Nat} {Q:Option Nat->SortSt->Prop} (h:St c a0 p0 lo (lo+nrem) st) (ho:okA c a0) (hz:lo+nrem<=a0.size) (hn:0<nrem)
  (hq: ∀ n st',0<n->n<=nrem->St c a0 p0 lo (lo+nrem) st'->up c (arrOf st') lo (lo+n)->Q (some n) st'):c.wp (CR lo nrem) Q st:=by
 refine qa2 (wpS_mono (ziQ h ho hz Nat.zero_lt_one hn ?_) ?_)
 ·intro i j h1 h2 h3
  have:i=j:=by omega
  subst this
  exact KeyOrd.kle_refl _
 rintro ⟨r,n⟩ st1 ⟨e1,e2,e3,e4,e5,e6⟩
 dsimp only at e1 e2 e3 e4 e5 e6 ⊢
 subst e1 e2
 refine zaY (fun q=> ?_) (fun q=> ?_)
 ·exact qa3 (hq _ _ (by omega) e4 h e5)
 rcases e6 with e6 | e6
 ·exact absurd e6 q
 have d1: ∀ xs:Array Keyed,(∀ k,KV c xs k=KV c (arrOf st1) k)->(∀ i,lo<=i->i<lo+n->KV c (arrOf st1) i=KV c (arrOf st1) (lo+n - 1))->dn c xs lo (lo+(n+1)):=by
  intro xs h1 h2
  refine zhv (by omega) ?_ ?_
  ·intro i j i1 i2 i3
   rw [h1,h1,h2 i i1 (by omega),h2 j (by omega) i3]
   exact KeyOrd.kle_refl _
  ·rw [h1,h1]
   exact KeyOrd.kle_of_klt e6
 have hzz:=h.l.size
 refine zaA (fun q2=>qa2 (zfx h ho (by omega) (by omega) (zaA (fun q3=> ?_) (fun q3=>qa2 (zkl ?_))))) (fun q2=> ?_)
 ·exact qa3 (hq _ _ (by omega) e4 h e5)
 have hek:ek c (arrOf st1) lo (lo+n):=by
  intro i i1 i2
  refine KeyOrd.kle_antisymm (e5 i _ i1 (by omega) (by omega)) ?_
  exact KeyOrd.kle_trans (by simpa [KeyOrd.kle] using q3) (e5 lo i (qaV _) i1 i2)
 have b1:=h.set (zfe (xs:=arrOf st1) (i:=lo) (j:=lo+n) (by omega) (qaV _) (by omega))
 have b2:=d1 _ (zd1 (by omega) hek) hek
 replace b2:dn c (arrOf (setArr st1 (mirror (arrOf st1) lo (lo+n) ((lo+n - lo) / 2)))) lo (lo+(n+1)):=b2
 generalize setArr st1 (mirror (arrOf st1) lo (lo+n) ((lo+n - lo) / 2))=st2 at b1 b2 ⊢
 rotate_left
 have b1:=h
 have b2:dn c (arrOf st1) lo (lo+(n+1)):=d1 _ (fun _=>rfl) (fun i i1 i2=>by
   have:i=lo+n - 1:=by omega
   rw [this])
 generalize st1=st2 at b1 b2 ⊢
 all_goals
  refine qa2 (zds ?_)
  refine qa2 (wpS_mono (wpS_forRange
    (I:=fun x r st'=>r.1=none/\r.2.1=x/\St c a0 p0 lo (lo+nrem) st'/\0<r.2.1/\r.2.2<r.2.1/\dn c (arrOf st') lo (lo+r.2.1)/\ek c (arrOf st') (lo+r.2.1 - (r.2.2+1)) (lo+r.2.1))
    (Q:=fun r st'=>r.1=none/\r.2.1<=nrem/\St c a0 p0 lo (lo+nrem) st'/\0<r.2.1/\r.2.2<r.2.1/\dn c (arrOf st') lo (lo+r.2.1)/\ek c (arrOf st') (lo+r.2.1 - (r.2.2+1)) (lo+r.2.1)) ?_ ?_
    ⟨rfl,rfl,b1,Nat.succ_pos _,Nat.succ_pos _,b2,?_⟩) ?_)
  ·rintro x ⟨r,m,u⟩ st3 x1 x2 ⟨g1,g2,g3,g4,g5,g6,g7⟩
   dsimp only at g1 g2 g3 g4 g5 g6 g7 ⊢
   subst g1 g2
   have z3:=g3.l.size
   refine qa2 (zfx g3 ho (by omega) (by omega) ?_)
   refine zaA (fun w=>zaA (fun w2=>qa2 (zkl (qa3 ?_))) (fun w2=>qa3 ?_)) (fun w=>qa2 (zfx g3 ho (by omega) (by omega) (zaA (fun w2=>qa3 ?_) (fun w2=>qa3 ?_))))
   ·have kk:=zd1 (c:=c) (xs:=arrOf st3) (by omega) g7
    refine ⟨rfl,rfl,g3.set (zfe (by omega) (by omega) (by omega)),Nat.succ_pos _,Nat.succ_pos _,zhv g4 ?_ ?_,?_⟩
    ·intro i j i1 i2 i3
     show c.O.kle (KV c (mirror _ _ _ _) j) (KV c (mirror _ _ _ _) i)
     rw [kk,kk]
     exact g6 i j i1 i2 i3
    ·show c.O.kle (KV c (mirror _ _ _ _) _) (KV c (mirror _ _ _ _) _)
     rw [kk,kk]
     exact KeyOrd.kle_of_klt w
    ·intro i i1 i2
     dsimp only at i1 i2 ⊢
     rw [show i=lo+(m+1) - 1 by omega]
   ·refine ⟨rfl,rfl,g3,Nat.succ_pos _,Nat.succ_pos _,zhv g4 g6 (KeyOrd.kle_of_klt w),?_⟩
    intro i i1 i2
    dsimp only at i1 i2 ⊢
    rw [show i=lo+(m+1) - 1 by omega]
   ·exact ⟨rfl,by dsimp only;omega,g3,g4,g5,g6,g7⟩
   ·have w1:c.O.blt (KV c (arrOf st3) (lo+m)) (KV c (arrOf st3) (lo+m - 1))=false:=by simpa using w
    have w3:c.O.blt (KV c (arrOf st3) (lo+m - 1)) (KV c (arrOf st3) (lo+m))=false:=by simpa using w2
    have ee:=c.O.total _ _ w1 w3
    refine ⟨rfl,rfl,g3,Nat.succ_pos _,by dsimp only;omega,zhv g4 g6 w3,?_⟩
    intro i i1 i2
    dsimp only at i1 i2 ⊢
    rw [show lo+(m+1) - 1=lo+m by omega]
    by_cases hi:i=lo+m
    ·rw [hi]
    ·rw [g7 i (by omega) (by omega),ee]
  ·rintro ⟨r,m,u⟩ st3 ⟨g1,g2,g3,g4,g5,g6,g7⟩
   exact ⟨g1,by dsimp only at g2 ⊢; omega,g3,g4,g5,g6,g7⟩
  ·intro i i1 i2
   dsimp only at i1 i2 ⊢
   rw [show i=lo+(n+1) - 1 by omega]
  ·rintro ⟨r,m,u⟩ st3 ⟨g1,g2,g3,g4,g5,g6,g7⟩
   dsimp only at g1 g2 g3 g4 g5 g6 g7 ⊢
   subst g1
   have z3:=g3.l.size
   refine zaA (fun w2=>qa2 (zkl ?_)) (fun w2=> ?_)
   have kk:=zd1 (c:=c) (xs:=arrOf st3) (by omega) g7
   have c1:=g3.set (zfe (xs:=arrOf st3) (i:=lo+m - (u+1)) (j:=lo+m) (by omega) (by omega) (by omega))
   have c2:dn c (arrOf (setArr st3 (mirror (arrOf st3) (lo+m - (u+1)) (lo+m) ((lo+m - (lo+m - (u+1))) / 2)))) lo (lo+m):=by
    intro i j i1 i2 i3
    show c.O.kle (KV c (mirror _ _ _ _) j) (KV c (mirror _ _ _ _) i)
    rw [kk,kk]
    exact g6 i j i1 i2 i3
   generalize setArr st3 (mirror (arrOf st3) (lo+m - (u+1)) (lo+m) ((lo+m - (lo+m - (u+1))) / 2))=st4 at c1 c2 ⊢
   rotate_left
   have c1:=g3
   have c2:=g6
   generalize st3=st4 at c1 c2 ⊢
   all_goals
    have z4:=c1.l.size
    refine qa2 (zkl ?_)
    have c3:=c1.set (zfe (xs:=arrOf st4) (i:=lo) (j:=lo+m) (by omega) (qaV _) (by omega))
    refine qa2 (wpS_mono (ziQ c3 ho hz g4 g2 ?_) ?_)
    ·intro i j i1 i2 i3
     show c.O.kle (KV c (mirror _ _ _ _) i) (KV c (mirror _ _ _ _) j)
     rw [ziR (by omega),ziR (by omega),qa4 (by omega),qa4 (by omega)]
     exact c2 _ _ (by omega) (by omega) (by omega)
    ·rintro ⟨r,k⟩ st5 ⟨f1,f2,f3,f4,f5,f6⟩
     dsimp only at f1 f2 f3 f4 f5 ⊢
     subst f1 f2
     exact qa3 (hq _ _ (by omega) f4 c3 f5)
theorem zl2 {xs:Array Keyed} {src d:Nat} (hs:src<xs.size) (hd:d<=src) (k:Nat):
  KV c (bubble xs src d) k=if k=src - d then KV c xs src else if src - d<k/\k<=src then KV c xs (k - 1) else KV c xs k:=by
 have e:=getElem?_bubble hs d hd k
 by_cases h1:k=src - d
 ·rw [qa4 h1] at e ⊢; exact zcO e
 ·rw [qa5 h1] at e ⊢
  by_cases h2:src - d<k/\k<=src
  ·rw [qa4 h2] at e ⊢; exact zcO e
  ·rw [qa5 h2] at e ⊢; exact zcO e
theorem zoE {st:SortSt} {n ok:Nat} {Q:Bool->SortSt->Prop} (h:St c a0 p0 lo hi st) (ho:okA c a0) (hz:hi<=a0.size) (h0:0<ok) (hok:ok<=n) (hn:lo+n<=hi) (hu:up c (arrOf st) lo (lo+ok))
  (hq: ∀ st',St c a0 p0 lo hi st'->up c (arrOf st') lo (lo+n)->Q true st'):c.wp (BS lo n ok) Q st:=by
 refine qa2 (wpS_mono (wpS_forRange (I:=fun k r st'=>r.1=none/\St c a0 p0 lo hi st'/\up c (arrOf st') lo (lo+k))
   (Q:=fun r st'=>r.1=none/\St c a0 p0 lo hi st'/\up c (arrOf st') lo (lo+n)) ?_ ?_ ⟨rfl,h,by rw [Nat.max_eq_left h0];exact hu⟩) ?_)
 ·rintro k ⟨r,u⟩ st1 k1 k2 ⟨e1,e2,e3⟩
  dsimp only at e1 e2 e3 ⊢
  subst e1
  have hzz:=e2.l.size
  refine qa2 (wpS_mono (wpS_forRange (I:=fun x r st'=>r.1=(none:Option Bool)/\st'=st1/\r.2.1<=r.2.2/\r.2.2<=k/\r.2.2 - r.2.1<=k - x/\
      (∀ i,i<r.2.1->c.O.kle (KV c (arrOf st1) (lo+i)) (KV c (arrOf st1) (lo+k)))/\(∀ i,r.2.2<=i->i<k->c.O.kle (KV c (arrOf st1) (lo+k)) (KV c (arrOf st1) (lo+i))))
    (Q:=fun r st'=>r.1=none/\st'=st1/\r.2.1<=k/\
      (∀ i,i<r.2.1->c.O.kle (KV c (arrOf st1) (lo+i)) (KV c (arrOf st1) (lo+k)))/\(∀ i,r.2.1<=i->i<k->c.O.kle (KV c (arrOf st1) (lo+k)) (KV c (arrOf st1) (lo+i)))) ?_ ?_
    ⟨rfl,rfl,Nat.zero_le _,qaV _,qaV _,by intro i hi;dsimp only at hi;omega,by intro i hi;dsimp only at hi;omega⟩) ?_)
  ·rintro x ⟨r,a,b⟩ st2 x1 x2 ⟨g1,g2,g3,g4,g5,g6,g7⟩
   dsimp only at g1 g2 g3 g4 g5 g6 g7 ⊢
   subst g1 g2
   refine zaA (fun w=>qa3 ?_) (fun w=>qa2 (zfx e2 ho (by omega) (by omega) (zaA (fun v=>qa3 ?_) (fun v=>qa3 ?_))))
   ·have:a=b:=by omega
    subst this
    exact ⟨rfl,rfl,g4,g6,g7⟩
   ·refine ⟨rfl,rfl,by dsimp only;omega,by dsimp only;omega,by dsimp only;omega,g6,?_⟩
    intro i i1 i2
    dsimp only at i1
    exact KeyOrd.kle_trans (KeyOrd.kle_of_klt v) (e3 _ _ (by omega) (by omega) (by omega))
   ·refine ⟨rfl,rfl,by dsimp only;omega,g4,by dsimp only;omega,?_,g7⟩
    intro i i1
    dsimp only at i1
    exact KeyOrd.kle_trans (e3 _ _ (by omega) (by omega) (by omega)) (KeyOrd.kle_of_not_klt v)
  ·rintro ⟨r,a,b⟩ st2 ⟨g1,g2,g3,g4,g5,g6,g7⟩
   dsimp only at g1 g2 g3 g4 g5 g6 g7 ⊢
   have:a=b:=by omega
   subst this
   exact ⟨g1,g2,g4,g6,g7⟩
  ·rintro ⟨r,a,b⟩ st2 ⟨g1,g2,g3,g4,g5⟩
   dsimp only at g1 g2 g3 g4 g5 ⊢
   subst g1 g2
   refine qa2 (zqS (qa3 ⟨rfl,e2.set ⟨Array.perm_iff_toList_perm.mp (bubble_perm _ _ _),fun i hi=> ?_⟩,?_⟩))
   ·rw [getElem?_bubble (by omega) _ (by omega),qa5 (by omega),qa5 (by omega)]
   ·intro i j i1 i2 i3
    show c.O.kle (KV c (bubble _ _ _) i) (KV c (bubble _ _ _) j)
    have hl:lo+k - (lo+k - (lo+a))=lo+a:=by omega
    rw [zl2 (by omega) (by omega),zl2 (by omega) (by omega),hl]
    have o1: ∀ p,lo<=p->p<lo+a->c.O.kle (KV c (arrOf st2) p) (KV c (arrOf st2) (lo+k)):=by
     intro p p1 p2
     have:=g4 (p - lo) (by omega)
     rwa [show lo+(p - lo)=p by omega] at this
    have o2: ∀ p,lo+a<=p->p<lo+k->c.O.kle (KV c (arrOf st2) (lo+k)) (KV c (arrOf st2) p):=by
     intro p p1 p2
     have:=g5 (p - lo) (by omega) (by omega)
     rwa [show lo+(p - lo)=p by omega] at this
    by_cases q1:i=lo+a
    ·rw [qa4 q1]
     by_cases q2:j=lo+a
     ·rw [qa4 q2];exact KeyOrd.kle_refl _
     ·rw [qa5 q2,qa4 (by omega)]
      exact o2 _ (by omega) (by omega)
    ·rw [qa5 q1]
     by_cases q3:i<lo+a
     ·rw [qa5 (by omega)]
      by_cases q2:j=lo+a
      ·rw [qa4 q2];exact o1 _ i1 q3
      ·rw [qa5 q2]
       by_cases q4:j<lo+a
       ·rw [qa5 (by omega)]
        exact e3 _ _ i1 i2 (by omega)
       ·rw [qa4 (by omega)]
        exact e3 _ _ i1 (by omega) (by omega)
     ·rw [qa4 (by omega),qa5 (by omega),qa4 (by omega)]
      exact e3 _ _ (by omega) (by omega) (by omega)
 ·rintro ⟨r,u⟩ st1 ⟨e1,e2,e3⟩
  refine ⟨e1,e2,?_⟩
  rw [show max (max ok 1) n=n by omega] at e3
  exact e3
 ·rintro ⟨r,u⟩ st1 ⟨e1,e2,e3⟩
  dsimp only at e1 ⊢
  subst e1
  exact qa3 (hq _ e2 e3)
end
end TS
end
section
namespace TS
set_option autoImplicit false
open PySem PyProof PyProof.Rows
noncomputable abbrev SR:StateT SortSt Sem Unit:=sortPriv% PySem.Builtin.sortRuns
section
variable {c:Cx}
noncomputable def chn (c:Cx) (xs:Array Keyed):List (Nat×Nat×Nat)->Nat->Nat->Prop
 | [],a,b=>a=b
 | t::r,a,b=>t.1=a/\0<t.2.1/\sg c xs a (a+t.2.1)/\chn c xs r (a+t.2.1) b
theorem zeZ {xs:Array Keyed}: ∀ {p q:List (Nat×Nat×Nat)} {a b:Nat},chn c xs (p++q) a b↔ ∃ m,chn c xs p a m/\chn c xs q m b
 | [],q,a,b=>⟨fun h=>⟨a,rfl,h⟩,fun ⟨m,e,h⟩=>by cases e;exact h⟩
 | t::r,q,a,b=>by
  show (_/\_/\_/\chn c xs (r++q) _ b)↔ ∃ m,(_/\_/\_/\chn c xs r _ m)/\_
  rw [zeZ]
  constructor
  ·rintro ⟨h1,h2,h3,m,h4,h5⟩;exact ⟨m,⟨h1,h2,h3,h4⟩,h5⟩
  ·rintro ⟨m,⟨h1,h2,h3,h4⟩,h5⟩;exact ⟨h1,h2,h3,m,h4,h5⟩
theorem zdO {xs:Array Keyed}: ∀ {p:List (Nat×Nat×Nat)} {a b:Nat},chn c xs p a b->a+p.length<=b
 | [],a,b,h=>by cases h;simp
 | t::r,a,b,h=>by
  have:=zdO h.2.2.2
  have:=h.2.1
  rw [qaE];omega
theorem zc4 {xs ys:Array Keyed}: ∀ {p:List (Nat×Nat×Nat)} {a b:Nat},chn c xs p a b->(∀ i,a<=i->i<b->ys[i]? = xs[i]?)->chn c ys p a b
 | [],a,b,h,_=>h
 | t::r,a,b,h,he=>by
  have hl:=zdO h.2.2.2
  refine ⟨h.1,h.2.1,?_,zc4 h.2.2.2 (fun i i1 i2=>he i (by omega) i2)⟩
  intro i j x y i1 i2 i3 ex ey
  rw [he i i1 (by omega)] at ex
  rw [he j (by omega) (by omega)] at ey
  exact h.2.2.1 i j x y i1 i2 i3 ex ey
theorem zjE {xs:Array Keyed} {f:Nat×Nat×Nat->Nat×Nat×Nat} (hf: ∀ t,(f t).1=t.1/\(f t).2.1=t.2.1): ∀ {p:List (Nat×Nat×Nat)} {i a b:Nat},chn c xs p a b->chn c xs (p.modify i f) a b
 | [],i,a,b,h=>by cases i<;>exact h
 | t::r,0,a,b,h=>by
  show chn c xs (f t::r) a b
  refine ⟨(hf t).1.trans h.1,?_,?_,?_⟩
  ·rw [(hf t).2];exact h.2.1
  ·rw [(hf t).2];exact h.2.2.1
  ·rw [(hf t).2];exact h.2.2.2
 | t::r,i+1,a,b,h=>by
  show chn c xs (t::r.modify i f) a b
  exact ⟨h.1,h.2.1,h.2.2.1,zjE hf h.2.2.2⟩
structure Rn (c:Cx) (a0:Array Keyed) (lo:Nat) (st:SortSt):Prop where
 k:kindOf st=c.kd
 f:failedOf st=none
 p:(arrOf st).toList.Perm a0.toList
 h:chn c (arrOf st) (pendingOf st).toList 0 lo
theorem Rn.size {a0:Array Keyed} {lo:Nat} {st:SortSt} (h:Rn c a0 lo st):(arrOf st).size=a0.size:=by simpa using h.p.length_eq
theorem Rn.ok {a0:Array Keyed} {lo:Nat} {st:SortSt} (h:Rn c a0 lo st) (ho:okA c a0):okA c (arrOf st):=fun x hx=>ho x (h.p.mem_iff.mp hx)
theorem zoK {α:Type} {l:List α} {i:Nat} (h:i+1<l.length): ∃ P x y S,l=P++x::y::S/\P.length=i:=by
 refine ⟨l.take i,l[i],l[i+1],l.drop (i+2),?_,by rw [List.length_take];omega⟩
 rw [<- qae, <-qae,qam]
theorem zlL {a0:Array Keyed} {st:SortSt} {lo i:Nat} {Q:Bool->SortSt->Prop} (h:Rn c a0 lo st) (ho:okA c a0) (hlo:lo<=a0.size) (hi:i+1<(pendingOf st).size)
  (hq: ∀ st',Rn c a0 lo st'->(pendingOf st').size+1=(pendingOf st).size->Loc (arrOf st) (arrOf st') 0 lo->Q true st'):c.wp (MAt i) Q st:=by
 obtain ⟨P,⟨sa,na,pa⟩,⟨sb,nb,pb⟩,S,eL,eP⟩:=zoK (l:=(pendingOf st).toList) (i:=i) (by simpa using hi)
 have hh:=h.h
 rw [eL,zeZ] at hh
 obtain ⟨m,h1,h2,h3,h4,h5,h6,h7,h8⟩:=hh
 dsimp only at h2 h3 h4 h5 h6 h7 h8
 subst h2 h5
 have hl1:=zdO h1
 have hl2:=zdO h8
 have hz:=h.size
 have g1:(pendingOf st)[i]? = some (sa,na,pa):=by
  rw [<- qaj,eL,qaa (by omega),eP,Nat.sub_self];rfl
 have g2:(pendingOf st)[i+1]? = some (sa+na,nb,pb):=by
  rw [<- qaj,eL,qaa (by omega),eP,show i+1 - i=1 by omega];rfl
 refine zrT h.k h.f (h.ok ho) g1 g2 h3 h6 (by omega) h4 h7 ?_
 intro st' k1 k2 k3 k4 k5
 have e3:(pendingOf st').toList=P++(sa,na+nb,pa)::S:=by
  rw [k3]
  simp only [Array.toList_eraseIdxIfInBounds,Array.toList_setIfInBounds]
  rw [eL, <-eP]
  simp only [List.set_append_right _ _ (qaV _),Nat.sub_self,List.set_cons_zero]
  rw [List.eraseIdx_append_of_length_le (by omega),show P.length+1 - P.length=1 by omega]
  rfl
 refine hq st' ⟨k1,k2,k4.p.trans h.p,?_⟩ ?_ (k4.wide (Nat.zero_le _) (by omega))
 ·rw [e3,zeZ]
  refine ⟨sa,zc4 h1 (fun i _ i2=>k4.o i (.inl i2)),rfl,?_,?_,?_⟩
  ·dsimp only;omega
  ·show sg c (arrOf st') sa (sa+(na+nb))
   rw [<- Nat.add_assoc];exact k5
  ·show chn c (arrOf st') S (sa+(na+nb)) lo
   rw [<- Nat.add_assoc]
   exact zc4 h8 (fun i i1 _=>k4.o i (.inr i1))
 ·have l1:(pendingOf st').size=(pendingOf st').toList.length:=by simp
  have l2:(pendingOf st).size=(pendingOf st).toList.length:=by simp
  rw [l1,l2,e3,eL]
  simp only [qav,qaE]
  omega
theorem zqV {a0:Array Keyed} {st:SortSt} {Q:Unit->SortSt->Prop} (hk:kindOf st=c.kd) (hf:failedOf st=none) (hp:pendingOf st= #[]) (ha:arrOf st=a0) (ho:okA c a0)
  (hq: ∀ st',failedOf st'=none->(arrOf st').toList.Perm a0.toList->sg c (arrOf st') 0 a0.size->Q () st'):c.wp SR Q st:=by
 refine qa2 (wpS_get ?_)
 have ez:(arrOf st).size=a0.size:=by rw [ha]
 generalize hN:(arrOf st).size=N at ez
 dsimp only
 generalize (sortPriv% PySem.Builtin.minRun) N N 0=mr
 refine qa2 (wpS_mono (wpS_forRange (I:=fun x r st'=>r.1=none/\Rn c a0 r.2 st'/\r.2<=N/\(x<=r.2\/r.2=N))
   (Q:=fun r st'=>r.1=none/\Rn c a0 N st') ?_ ?_ ⟨rfl,⟨hk,hf,by rw [ha],by rw [hp];rfl⟩,Nat.zero_le _,.inl (qaV _)⟩) ?_)
 ·rintro x ⟨r,lo⟩ st1 x1 x2 ⟨e1,e2,e3,e4⟩
  dsimp only at e1 e2 e3 e4 ⊢
  subst e1
  have z1:=e2.size
  refine zaA (fun w=>qa3 ⟨rfl,?_⟩) (fun w=> ?_)
  ·have:lo=N:=by omega
   rw [<- this]
   exact e2
  refine qa2 (zlA (a0:=arrOf st1) (p0:=pendingOf st1) ⟨e2.k,e2.f,rfl,Loc.refl _ _ _⟩ (e2.ok ho) (by omega) (by omega) ?_)
  intro n st2 n1 n2 s2 u2
  dsimp only
  have fin: ∀ (n:Nat) (st3:SortSt),0<n->n<=N - lo->St c (arrOf st1) (pendingOf st1) lo (lo+(N - lo)) st3->up c (arrOf st3) lo (lo+n)->Rn c a0 lo st3/\sg c (arrOf st3) lo (lo+n):=by
   intro n st3 m1 m2 m3 m4
   refine ⟨⟨m3.k,m3.f,m3.l.p.trans e2.p,?_⟩,zqG m4⟩
   rw [m3.p]
   exact zc4 e2.h (fun i _ i2=>m3.l.o i (.inl i2))
  refine zaA (fun w2=>qa2 (zds (qa2 (zoE s2 (e2.ok ho) (by omega) n1 (n:=min (N - lo) mr) (by omega) (by omega) u2 ?_)))) (fun w2=> ?_)
  intro st3 s3 u3
  rw [qa5 (by simp)]
  have hm:0<min (N - lo) mr/\min (N - lo) mr<=N - lo:=by omega
  obtain ⟨r3,g3⟩:=fin _ st3 hm.1 hm.2 s3 u3
  generalize min (N - lo) mr=m at hm g3 ⊢
  rotate_left
  obtain ⟨r3,g3⟩:=fin _ st2 n1 n2 s2 u2
  have hm:0<n/\n<=N - lo:=⟨n1,n2⟩
  generalize n=m at hm g3 ⊢
  generalize st2=st3 at r3 g3 ⊢
  all_goals
   have push: ∀ st4:SortSt,Rn c a0 lo st4->sg c (arrOf st4) lo (lo+m)->Rn c a0 (lo+m) (SortSt.mk' (kindOf st4) (arrOf st4) ((pendingOf st4).push (lo,m,0)) (gallopOf st4) (failedOf st4)):=by
    intro st4 r4 g4
    refine ⟨r4.k,r4.f,r4.p,?_⟩
    show chn c (arrOf st4) ((pendingOf st4).push (lo,m,0)).toList 0 (lo+m)
    rw [Array.toList_push,zeZ]
    exact ⟨lo,r4.h,rfl,hm.1,g4,rfl⟩
   refine qa2 (wpS_get ?_)
   split
   ·refine qa2 (wpS_mono (wpS_forRange (I:=fun _ r st'=>r.1=none/\Rn c a0 lo st'/\sg c (arrOf st') lo (lo+m))
      (Q:=fun r st'=>r.1=none/\Rn c a0 lo st'/\sg c (arrOf st') lo (lo+m)) ?_ ?_ ⟨rfl,r3,g3⟩) ?_)
    ·rintro y ⟨r,u⟩ st4 y1 y2 ⟨f1,f2,f3⟩
     dsimp only at f1 f2 f3 ⊢
     subst f1
     refine qa2 (wpS_get ?_)
     split
     ·rename_i hs
      have hs2:(pendingOf st4).size>1:=by
       by_cases hc:(pendingOf st4).size>1
       ·exact hc
       ·rw [qa5 hc] at hs;cases hs
      refine zaA (fun _=>qa3 ⟨rfl,f2,f3⟩) (fun _=>qa2 (zlL f2 ho (by omega) (by show (pendingOf st4).size - 2+1<(pendingOf st4).size;omega) ?_))
      intro st5 r5 _ l5
      rw [qa5 (by simp)]
      refine qa3 ⟨rfl,r5,?_⟩
      intro i j a b i1 i2 i3 ea eb
      rw [l5.o i (.inr i1)] at ea
      rw [l5.o j (.inr (by omega))] at eb
      exact f3 i j a b i1 i2 i3 ea eb
     ·exact qa3 ⟨rfl,f2,f3⟩
    ·intro r st4 hh
     exact hh
    ·rintro ⟨r,u⟩ st4 ⟨f1,f2,f3⟩
     dsimp only at f1 f2 f3 ⊢
     subst f1
     refine qa2 (wpS_modify (qa2 (wpS_modify (qa3 ⟨rfl,?_,by dsimp only;omega,by dsimp only;omega⟩))))
     refine push _ ⟨f2.k,f2.f,f2.p,?_⟩ f3
     show chn c (arrOf st4) ((pendingOf st4).modify _ _).toList 0 lo
     rw [Array.toList_modify]
     refine zjE ?_ f2.h
     exact fun _=>⟨rfl,rfl⟩
   ·exact qa2 (wpS_modify (qa3 ⟨rfl,push _ r3 g3,by dsimp only;omega,by dsimp only;omega⟩))
 ·rintro ⟨r,lo⟩ st1 ⟨e1,e2,e3,e4⟩
  dsimp only at e1 e2 e3 e4 ⊢
  have:lo=N:=by omega
  exact ⟨e1,this▸e2⟩
 ·rintro ⟨r,lo⟩ st1 ⟨e1,e2⟩
  dsimp only at e1 e2 ⊢
  subst e1
  refine qa2 (wpS_mono (wpS_forRange (I:=fun x r st'=>r.1=none/\Rn c a0 N st'/\((pendingOf st').size<=1\/(pendingOf st').size+x<=N))
    (Q:=fun r st'=>r.1=none/\Rn c a0 N st'/\(pendingOf st').size<=1) ?_ ?_ ⟨rfl,e2,.inr ?_⟩) ?_)
  ·rintro x ⟨r,u⟩ st2 x1 x2 ⟨f1,f2,f3⟩
   dsimp only at f1 f2 f3 ⊢
   subst f1
   refine qa2 (wpS_get ?_)
   refine zaA (fun w=>qa3 ⟨rfl,f2,w⟩) (fun w=>qa2 (zlL f2 ho (by omega) ?_ ?_))
   ·replace w: ¬(pendingOf st2).size<=1:=w
    have hx: ∀ (p:Prop) [Decidable p],(if p then (pendingOf st2).size - 2 - 1 else (pendingOf st2).size - 2)+1<(pendingOf st2).size:=by
     intro p _
     split<;>omega
    exact hx _
   ·intro st3 r3 p3 _
    rw [qa5 (by simp)]
    exact qa3 ⟨rfl,r3,by omega⟩
  ·rintro ⟨r,u⟩ st2 ⟨f1,f2,f3⟩
   exact ⟨f1,f2,by omega⟩
  ·have:=zdO e2.h
   simp only [qas] at this
   omega
  ·rintro ⟨r,u⟩ st2 ⟨f1,f2,f3⟩
   dsimp only at f1 f2 f3 ⊢
   subst f1
   refine qa3 (hq _ f2.f f2.p ?_)
   have hh:=f2.h
   have hl:(pendingOf st2).toList.length<=1:=by simpa using f3
   rw [<- ez]
   match hL:(pendingOf st2).toList,hl with
   | [],_=>
    rw [hL] at hh
    have:0=N:=hh
    intro i j x y i1 i2 i3
    omega
   | [t],_=>
    rw [hL] at hh
    obtain ⟨t1,t2,t3,t4⟩:=hh
    have t5:0+t.2.1=N:=t4
    rw [t5] at t3
    exact t3
end
end TS
end
section
namespace TS
set_option autoImplicit false
open PySem PyProof PyProof.Rows
noncomputable def h6 (h:Heap) (a:Addr) (vs:List Value):Heap:=((h.update a (Obj.mapSeq fun _=> #[])).push (seqObj "tuple" vs.toArray 0)).push (seqObj "list" #[] 0)
theorem zkO (c:Cx) {s:Shared} {a:Addr} {vs:List Value} {n:Nat} {P:Fin->Shared->Prop} (ho:s.heap.get? a=some (seqObj "list" vs.toArray n)) (hs:c.s={s with heap:=h6 s.heap a vs})
  (hok: ∀ v,v∈vs->c.ok v) (hkk:2<=vs.length-> ∀ Q:SortKind->Shared->Prop,Q c.kd c.s->wpAny (model c.prog c.w) c.A (keyKind' vs.toArray) Q c.E c.s) (hz:vs.length<=sizeLine)
  (h: ∀ xs:Array Keyed,xs.toList.Perm (pairsOf vs).toList->sg c xs 0 vs.length->P (.done (.ret .none)) {s with heap:=sortedHeap s.heap a vs (xs.map (·.2))}):
  wpAny (model c.prog c.w) c.A (Builtin.«list.sort» ⟨[.ref a],[]⟩) P c.E s:=by
 rw [list_sort_plain]
 have ha:a<s.heap.objs.size:=qaQ ho
 have zz:vs.toArray.size=vs.length:=by simp
 refine qaW (listItems_at ho rfl ?_)
 refine qaW (listUpdate_at ho rfl ?_ (by rw [zz];exact hz) (Nat.zero_le _))
 obtain ⟨e1,ho1⟩: ∃ e1,(s.heap.update a (Obj.mapSeq fun _=> #[])).get? a=some (seqObj "list" #[] e1):=⟨_,get?_update_seq ho (fun _=> #[])⟩
 refine qaW (seqEpoch_at ho1 rfl ?_)
 refine qaW (wpAny_newTuple ?_ (by simpa using hz))
 refine qaW (wpAny_newList ?_)
 refine qaO ?_
 have ho6:(h6 s.heap a vs).get? a=some (seqObj "list" #[] e1):=by
  unfold h6
  rw [Heap.get?_push_ne _ _ _ (by rw [size_push',Heap.size_update];exact qaR (Nat.lt_succ_of_lt ha)),Heap.get?_push_ne _ _ _ (by rw [Heap.size_update];exact qaR ha)]
  exact ho1
 show wpAny (model c.prog c.w) c.A _ P c.E {s with heap:=h6 s.heap a vs}
 rw [<- hs]
 have ho7:c.s.heap.get? a=some (seqObj "list" #[] e1):=by rw [hs];exact ho6
 dsimp only
 have zx: ∀ xs:Array Keyed,xs.toList.Perm (pairsOf vs).toList->(xs.map (·.2)).size<=sizeLine+1:=by
  intro xs hp
  have:=hp.length_eq
  simp only [qas,pairsOf_size] at this
  rw [Array.size_map];omega
 have e2: ∀ out:Array Value,({c.s with heap:=c.s.heap.update a (Obj.mapSeq fun _=>out)}:Shared)={s with heap:=sortedHeap s.heap a vs out}:=by
  intro out;rw [hs];rfl
 by_cases h2:vs.toArray.size<2
 ·rw [qa4 h2,qa4 h2]
  refine qaW (qaX ?_)
  rw [StateT.run_pure]
  refine qaW (qaX ?_)
  dsimp only
  refine qaW (seqEpoch_at ho7 rfl ?_)
  refine qaW (listUpdate_at ho7 rfl ?_ (hsz2:=zx _ (List.Perm.refl _)))
  simp only [bne_self_eq_false,qax,if_false]
  refine qaX ?_
  rw [e2]
  refine h (vs.toArray.zip vs.toArray) (List.Perm.refl _) ?_
  intro i j x y i1 i2 i3 ex ey
  have:i=j:=by omega
  subst this
  rw [ex] at ey
  cases ey
  exact Cx.le_refl _
 ·rw [qa5 h2,qa5 h2]
  refine qaW (hkk (by omega) _ ?_)
  refine qaW (qaZ (zqV (c:=c) (a0:=pairsOf vs) (st:=SortSt.mk' c.kd (vs.toArray.zip vs.toArray) #[] 7 none) (Q:=fun _ st'=>failedOf st'=none/\(arrOf st').toList.Perm (pairsOf vs).toList/\sg c (arrOf st') 0 (pairsOf vs).size)
    rfl rfl rfl rfl ?_ fun st' b1 b2 b3=>⟨b1,b2,b3⟩) ?_ fun _ _ e=>e)
  ·intro x hx
   rw [pairsOf_toList] at hx
   exact hok _ (mem_zip_self hx).2
  rintro ⟨⟨⟩,st'⟩ s' ⟨rfl,hf,hp,hg⟩
  rw [pairsOf_size] at hg
  dsimp only
  refine qaW (seqEpoch_at ho7 rfl ?_)
  refine qaW (listUpdate_at ho7 rfl ?_ (hsz2:=zx _ hp))
  rw [hf]
  simp only [bne_self_eq_false,qax,if_false]
  refine qaX ?_
  rw [e2]
  exact h _ hp hg
theorem zrI {c:Cx} {xs:Array Keyed} (h:sg c xs 0 xs.size):xs.toList.Pairwise c.le:=by
 have:=ziY h (qaV _)
 unfold srt at this
 rwa [Array.extract_size] at this
def Srt (prog:Program) (w:World) (A:Around) (vs:List Value) (s1:Shared) (kd:SortKind) (O:KeyOrd) (ky:Value->O.α) (ok:Value->Prop):Prop:=
 (∀ v,v∈vs->ok v)/\ ∀ s2:Shared,(∀ b o,s1.heap.get? b=some o->s2.heap.get? b=some o)->
  (2<=vs.length-> ∀ (E:Value->Shared->Prop) (Q:SortKind->Shared->Prop),Q kd s2->wpAny (model prog w) A (keyKind' vs.toArray) Q E s2)/\
  ∀ (E:Value->Shared->Prop) (x y:Value) (Q:Bool->Shared->Prop),ok x->ok y->Q (O.blt (ky x) (ky y)) s2->wpAny (model prog w) A (keyLt' kd x y) Q E s2
theorem zh7 {prog:Program} {w:World} {A:Around} {E:Value->Shared->Prop} {s:Shared} {x:Value} {Q:Value->Shared->Prop} (hc: ∀ E':Value->Shared->Prop,wpAny (model prog w) A.in1 (collect x) (fun vs s1=>
      vs.length<=sizeLine/\ ∃ kd O ky ok,Srt prog w A.in1.in1 vs s1 kd O ky ok/\
      ∀ (out:List Value) e h',out.Perm vs->out.Pairwise (fun x y=>O.kle (ky x) (ky y))->(∀ b ob,s1.heap.get? b=some ob->h'.get? b=some ob)->h'.get? s1.heap.objs.size=some (seqObj "list" out.toArray e)->Q (.ref s1.heap.objs.size) {s1 with heap:=h'}) E' s):
  wpAny (model prog w) A (call (.builtin "sorted") [x]) Q E s:=by
 refine Calls.call_function_entry kind_sorted plain_sorted entry_sorted (args_sorted1 _) ?_
 unfold Builtin.«sorted»
 refine qaW (m:=checkCount "sorted" 1 1 _) (qaX ?_)
 refine qaW (m:=collect x) (qaZ (hc _) (fun vs s1 ⟨hz,kd,O,ky,ok,⟨hS,hS2⟩,q⟩=> ?_) fun _ _ z=>z)
 refine qaW (wpAny_newList ?_ hz)
 have at0:(s1.heap.push {cls:= .type "list",data:= .seq vs.toArray}).get? s1.heap.objs.size=some (seqObj "list" vs.toArray 0):=qar _ rfl
 have keep: ∀ b ob,s1.heap.get? b=some ob->(h6 (s1.heap.push {cls:= .type "list",data:= .seq vs.toArray}) s1.heap.objs.size vs).get? b=some ob:=by
  intro b ob eb
  have lt:=qaQ eb
  unfold h6
  refine qag _ (qag _ ?_)
  exact (qah _ _ (Ne.symm (qaR lt))).trans (qag _ eb)
 obtain ⟨g1,g2⟩:=hS2 {s1 with heap:=h6 (s1.heap.push {cls:= .type "list",data:= .seq vs.toArray}) s1.heap.objs.size vs} keep
 refine qaW (qaO (wpAny_call_entry slot_list_sort ⟨_,at0,rfl⟩ entry_list_sort (zkO (s:={s1 with heap:=s1.heap.push {cls:= .type "list",data:= .seq vs.toArray}})
   ⟨prog,w,A.in1.in1,_,_,kd,O,ky,ok,g2⟩ at0 rfl hS (fun h2 Q hQ=>g1 h2 _ Q hQ) hz fun xs hp hg=>⟨_,rfl,?_⟩) (args_list_sort _)))
 obtain ⟨e,he⟩:=sortedHeap_at (out:=xs.map (·.2)) at0
 have hl:xs.size=vs.length:=by
  have:=hp.length_eq
  simpa [pairsOf_size] using this
 rw [<- hl] at hg
 have hpw:=zrI hg
 have hmem: ∀ p,p∈xs.toList->p.1=p.2:=fun p hp'=>(mem_zip_self (by rw [<- pairsOf_toList];exact hp.mem_iff.mp hp')).1
 refine qaX ⟨_,rfl,q (xs.map (·.2)).toList e _ ?_ ?_ (fun b ob eb=> ?_) (by rw [Array.toArray_toList];exact he)⟩
 ·rw [Array.toList_map]
  have:=hp.map (·.2)
  rw [pairsOf_toList] at this
  refine this.trans (List.Perm.of_eq ?_)
  exact List.map_snd_zip (qaV _)
 ·rw [Array.toList_map,List.pairwise_map]
  refine List.Pairwise.imp_of_mem ?_ hpw
  intro u v hu hv huv
  rw [<- hmem u hu, <-hmem v hv]
  exact huv
 ·have lt:=qaQ eb
  rw [sortedHeap_old (qaR lt) (by rw [qaL];exact Nat.lt_succ_of_lt lt)]
  exact qag _ eb
end TS
end
namespace TS
set_option autoImplicit false
open PySem PyProof PyProof.Rows PySem.SeqAt
open PySem.MeetsSeq PySem.MeetsSeq2 PySem.MeetsSeq3
inductive Rs (A:Around) (s:Shared) (b:Bool):List ((Value×Value)×Nat)->Bool->Bool->Prop
 | nil (d:Bool):Rs A s b [] d d
 | eq {p q:Value} {i:Nat} {rest:List ((Value×Value)×Nat)} {d r:Bool} (h:EqAt A s p q true) (t:Rs A s b rest d r):Rs A s b (((p,q),i)::rest) d r
 | ne {p q:Value} {i:Nat} {rest:List ((Value×Value)×Nat)} {d l:Bool} (h:EqAt A s p q false) (t: ∀ (prog:Program) (w:World) (E:Value->Shared->Prop) (Q:Bool->Shared->Prop),Q l s->wpAny (model prog w) A (oneLt' (b && i==0) p q) Q E s):Rs A s b (((p,q),i)::rest) d l
section
variable {prog:Program} {w:World} {A:Around} {s:Shared}
theorem zjj {b:Bool} {F:((Value×Value)×Nat)->(Option Bool×Unit)->Sem (ForInStep (Option Bool×Unit))}
  (hF: ∀ p q i c,F ((p,q),i) c=(eqBool p q>>=fun e=>if (!e)=true then oneLt' (b && i==0) p q>>=fun r=>pure (.done (some r,())) else pure (.yield (none,())))) {E:Value->Shared->Prop}:
  ∀ {L:List ((Value×Value)×Nat)} {d r:Bool},Rs A s b L d r->wpAny (model prog w) A (forIn L ((none:Option Bool),()) F) (fun c s'=>s'=s/\(c.1=some r\/(c.1=none/\d=r))) E s
 | _,_,_,.nil d=>by
  rw [List.forIn_nil]
  exact qaX ⟨rfl,.inr ⟨rfl,rfl⟩⟩
 | _,_,_,.eq h t=>by
  rw [List.forIn_cons,hF,bind_assoc]
  refine qaW (h prog w _ _ ?_)
  rw [qa5 (by simp),pure_bind]
  exact zjj hF t
 | _,_,_,.ne h t=>by
  rw [List.forIn_cons,hF,bind_assoc]
  refine qaW (h prog w _ _ ?_)
  rw [qa4 (by simp),bind_assoc]
  refine qaW (t prog w _ _ ?_)
  rw [pure_bind]
  exact qaX ⟨rfl,.inl rfl⟩
theorem zjU {b r:Bool} {E:Value->Shared->Prop} {Q:Bool->Shared->Prop} {a q:Addr} {xs ys:Array Value} (hx:IsTup s.heap a xs) (hy:IsTup s.heap q ys) (h:Rs A s b (xs.toList.zip ys.toList).zipIdx (decide (xs.size<ys.size)) r) (hq:Q r s):
  wpAny (model prog w) A (keyLt' (tuples' b) (.ref a) (.ref q)) Q E s:=by
 obtain ⟨o1,e1,_,n1,d1⟩:=hx
 obtain ⟨o2,e2,_,n2,d2⟩:=hy
 refine qaW (listItems_at e1 d1 (qaW (listItems_at e2 d2 ?_)))
 refine qaW (qaZ (zjj (b:=b) ?_ h) ?_ fun _ _ e=>e)
 ·exact fun p q i c=>rfl
 ·rintro ⟨c,u⟩ s' ⟨rfl,e | ⟨e,e3⟩⟩
  ·cases e
   exact qaX hq
  ·cases e
   subst e3
   exact qaX hq
theorem zkS {x y:Value} {l:Bool} (h: ∀ (prog:Program) (w:World) (E Q:Value->Shared->Prop),Q (.bool l) s->wpAny (model prog w) A (richCompare .Lt x y) Q E s) {E:Value->Shared->Prop} {Q:Bool->Shared->Prop} (hq:Q l s):
  wpAny (model prog w) A (oneLt' false x y) Q E s:=by
 rw [oneLt'_eq]
 simp only [qax,if_false]
 exact qaW (h prog w _ _ (wpAny_truthy_bool hq))
def ze8 (h:Heap) (v:Value) (ns:List Int):Prop:= ∃ (a:Addr) (its:List Value),v= .ref a/\IsTup h a its.toArray/\IntsAre its ns
theorem zi5 {b:Bool}: ∀ {xs ys:List Value} {ns ms:List Int} (k:Nat),IntsAre xs ns->IntsAre ys ms->Rs A s b ((xs.zip ys).zipIdx k) (decide (ns.length<ms.length)) (HT.zci ns ms)
 | _,_,_,_,k,.nil,.nil=> .nil _
 | _,_,_,_,k,.nil,.cons m t r=>by
  rw [show decide (([]:List Int).length<(m::_).length)=true by simp]
  exact .nil _
 | _,_,_,_,k,.cons n t r,.nil=>by
  rw [show decide ((n::_).length<([]:List Int).length)=false by simp]
  exact .nil _
 | _,_,_,_,k,.cons n t r,.cons m u q=>by
  have c0:EqAt A s (.int n t) (.int m u) (n==m):=EqAt.int_int _ _ _ _
  rw [HT.zbs,List.zip_cons_cons,List.zipIdx_cons]
  simp only [qaE,Nat.add_lt_add_iff_right]
  by_cases h1:n=m
  ·rw [qa4 h1]
   rw [show (n==m)=true by simpa using h1] at c0
   exact .eq c0 (zi5 (k+1) r q)
  ·rw [qa5 h1]
   rw [show (n==m)=false by simpa using h1] at c0
   refine .ne c0 (fun prog w E Q hq=> ?_)
   cases (b && k==0)
   ·exact zkS (fun prog w E Q hq=>HT.zkT _ _ _ _ _ _ prog w E Q hq) hq
   ·exact oneLt_int hq
theorem zhU {b:Bool} {E:Value->Shared->Prop} {Q:Bool->Shared->Prop} {u v:Value} {p q:List Int} (hv:ze8 s.heap v p) (hu:ze8 s.heap u q) (h:Q (HT.zci p q) s):
  wpAny (model prog w) A (keyLt' (tuples' b) v u) Q E s:=by
 obtain ⟨a,its,rfl,ha,hi⟩:=hv
 obtain ⟨c,its',rfl,hc,hj⟩:=hu
 have:=zi5 (A:=A) (s:=s) (b:=b) 0 hi hj
 rw [<- hi.length, <-hj.length] at this
 exact zjU ha hc (by simpa using this) h
end
end TS
namespace TS
set_option autoImplicit false
open PySem PyProof PyProof.Rows PySem.SeqAt
def zfz (h:Heap) (v:Value):Prop:= ∃ (a:Addr) (xs:Array Value) (n:Int) (t:Tok),v= .ref a/\IsTup h a xs/\xs[0]? = some (.int n t)
section
variable {prog:Program} {w:World} {A:Around} {s:Shared}
theorem zkL {v:Value} (h:zfz s.heap v) {E:Value->Shared->Prop}:wpAny (model prog w) A (firstOfTuple' v) (fun r s'=>s'=s/\ ∃ n t,r=some (.int n t)) E s:=by
 obtain ⟨a,xs,n,t,rfl,⟨o,e1,e2,m,d⟩,hx⟩:=h
 refine qaW (wpAny_typeOf (T:="tuple") ⟨o,e1,e2⟩ ?_)
 have:(Value.type "tuple" != Value.type "tuple")=false:=by rfl
 rw [this]
 refine qaW (listItems_at e1 d (qaX ⟨rfl,n,t,hx⟩))
theorem zga {E:Value->Shared->Prop}: ∀ (vs:List Value),(∀ v,v∈vs->zfz s.heap v)->wpAny (model prog w) A (vs.mapM firstOfTuple') (fun r s'=>s'=s/\ ∃ us ns,IntsAre us ns/\r=us.map some/\us.length=vs.length) E s
 | [],_=>by rw [List.mapM_nil];exact qaX ⟨rfl,[],[],.nil,rfl,rfl⟩
 | v::vs,h=>by
  rw [List.mapM_cons]
  refine qaW (qaZ (zkL (h v (qau ..))) ?_ fun _ _ e=>e)
  rintro r s' ⟨es,n,t,rfl⟩
  rw [es]
  refine qaW (qaZ (zga vs fun u hu=>h u (qan _ hu)) ?_ fun _ _ e=>e)
  rintro r s' ⟨es,us,ns,h1,rfl,h3⟩
  rw [es]
  exact qaX ⟨rfl,.int n t::us,n::ns,.cons n t h1,rfl,by simp [h3]⟩
theorem zmA {vs:List Value} (h: ∀ v,v∈vs->zfz s.heap v) (h0:2<=vs.length) {E:Value->Shared->Prop} {Q:SortKind->Shared->Prop} (hq:Q (tuples' true) s):wpAny (model prog w) A (keyKind' vs.toArray) Q E s:=by
 rw [keyKind'_eq,List.mapM_toArray,map_eq_pure_bind,bind_assoc]
 refine qaW (qaZ (zga vs h) ?_ fun _ _ e=>e)
 rintro r s' ⟨rfl,us,ns,h1,rfl,h3⟩
 rw [pure_bind]
 rw [qa4 (by simp)]
 refine qaW (wpAny_rule ?_)
 have e1:Array.filterMap id (us.map some).toArray=us.toArray:=by simp
 rw [e1,oneTypeOnly'_eq,List.mapM_toArray,mapM_typeOf_ints h1]
 simp only [map_pure,pure_bind]
 obtain ⟨u,us',rfl⟩: ∃ u us',us=u::us':=by
  cases us with
  | nil=>simp at h3;omega
  | cons u us'=>exact ⟨u,us',rfl⟩
 have hall:((List.map (fun _=>Value.type "int") (u::us')).toArray.all fun x=>x==Value.type "int")=true:=by
  simp only [List.all_toArray,List.all_map,List.all_eq_true]
  intro _ _
  rfl
 have h0':(List.map (fun _=>Value.type "int") (u::us')).toArray[0]? = some (Value.type "int"):=by simp
 rw [h0']
 simp only [hall,if_true,pure_bind]
 exact qaX hq
end
theorem zlP: ∀ a b c:List Int,HT.zci a b=true->HT.zci b c=true->HT.zci a c=true
 | [],[],_,h,_=>by cases h
 | [],_::_,[],_,h=>by cases h
 | [],_::_,_::_,_,_=>rfl
 | _::_,[],_,h,_=>by cases h
 | _::_,_::_,[],_,h=>by cases h
 | x::a,y::b,z::c,h1,h2=>by
  rw [HT.zbs] at h1 h2 ⊢
  have ih:=zlP a b c
  split at h1<;>split at h2<;>split<;>simp_all<;>omega
theorem zlZ: ∀ a b c:List Int,HT.zci a c=true->HT.zci a b=true\/HT.zci b c=true
 | [],_,[],h=>by cases h
 | [],[],_::_,_=> .inr rfl
 | [],_::_,_::_,_=> .inl rfl
 | _::_,_,[],h=>by cases h
 | _::_,[],_::_,_=> .inr rfl
 | x::a,y::b,z::c,h=>by
  rw [HT.zbs] at h ⊢
  rw [HT.zbs]
  have ih:=zlZ a b c
  split at h<;>split<;>split<;>simp_all<;>omega
theorem zlE: ∀ a b:List Int,HT.zci a b=false->HT.zci b a=false->a=b
 | [],[],_,_=>rfl
 | [],_::_,h,_=>by cases h
 | _::_,[],_,h=>by cases h
 | x::a,y::b,h1,h2=>by
  rw [HT.zbs] at h1 h2
  have ih:=zlE a b
  split at h1<;>split at h2<;>simp_all<;>omega
noncomputable def zso:KeyOrd:=⟨List Int,HT.zci,L3.zg8,zlP,zlZ,zlE⟩
theorem zmK {h:Heap} {v:Value} {p q:List Int} (h1:ze8 h v p) (h2:ze8 h v q):p=q:=by
 obtain ⟨a,its,rfl,⟨o,e1,_,n1,d1⟩,hi⟩:=h1
 obtain ⟨b,its',eb,⟨o',e1',_,n1',d1'⟩,hj⟩:=h2
 cases eb
 rw [e1] at e1'
 cases e1'
 rw [d1] at d1'
 injection d1' with z1 _
 have z5:its=its':=by simpa using congrArg Array.toList z1
 subst z5
 exact L3.zhG hi hj
theorem ze8.keep {h h':Heap} {v:Value} {p:List Int} (k: ∀ b o,h.get? b=some o->h'.get? b=some o):ze8 h v p->ze8 h' v p:=fun ⟨a,its,e,⟨o,x1,x2⟩,z⟩=>⟨a,its,e,⟨o,k _ _ x1,x2⟩,z⟩
theorem zjH {h:Heap} {v:Value} {p:List Int} (h1:ze8 h v p) (hp:p≠[]):zfz h v:=by
 obtain ⟨a,its,rfl,ha,hi⟩:=h1
 cases hi with
 | nil=>exact absurd rfl hp
 | cons n t r=>exact ⟨a,_,n,t,rfl,ha,rfl⟩
structure KR where
 O:KeyOrd
 dflt:O.α
 At:Heap->Value->O.α->Prop
 inj: ∀ {h v p q},At h v p->At h v q->p=q
 keep: ∀ {h h':Heap} {v p},(∀ b o,h.get? b=some o->h'.get? b=some o)->At h v p->At h' v p
 first: ∀ {h v p},At h v p->zfz h v
 lt: ∀ {prog:Program} {w:World} {A:Around} {s:Shared} {E:Value->Shared->Prop} {Q:Bool->Shared->Prop} {u v p q},At s.heap v p->At s.heap u q->A.units+2<cLine->Q (O.blt p q) s->wpAny (model prog w) A (keyLt' (tuples' true) v u) Q E s
noncomputable def krT:KR:=⟨zso,[],fun h v p=>ze8 h v p/\p≠[],fun h1 h2=>zmK h1.1 h2.1,fun k h=>⟨h.1.keep k,h.2⟩,fun h=>zjH h.1 h.2,fun h1 h2 _ hq=>zhU h1.1 h2.1 hq⟩
open Classical in
noncomputable def KR.ky (k:KR) (h:Heap) (v:Value):k.O.α:=if e: ∃ p,k.At h v p then e.choose else k.dflt
theorem KR.ky_eq {k:KR} {h:Heap} {v:Value} {p:k.O.α} (e:k.At h v p):k.ky h v=p:=by
 unfold KR.ky
 rw [dif_pos ⟨p,e⟩]
 exact k.inj (Exists.choose_spec ⟨p,e⟩) e
theorem KR.srt (k:KR) {prog:Program} {w:World} {A:Around} {vs:List Value} {s1:Shared} (hr:A.units+2<cLine) (h: ∀ v,v∈vs-> ∃ p,k.At s1.heap v p):Srt prog w A vs s1 (tuples' true) k.O (k.ky s1.heap) (fun v=> ∃ p,k.At s1.heap v p):=by
 refine ⟨h,fun s2 hk=>⟨fun h2 E Q hq=>zmA (fun v hv=> ?_) h2 hq,fun E x y Q hx hy hq=> ?_⟩⟩
 ·obtain ⟨p,hp⟩:=h v hv
  exact k.first (k.keep hk hp)
 ·obtain ⟨p,hp⟩:=hx
  obtain ⟨q,hq'⟩:=hy
  rw [KR.ky_eq hp,KR.ky_eq hq'] at hq
  exact k.lt (k.keep hk hp) (k.keep hk hq') hr hq
end TS
namespace TS
set_option autoImplicit false
open PySem PyProof.Rows
theorem ziJ {α β:Type} {R:α->β->Prop} {l l':List β} (hp:l'.Perm l): ∀ {as:List α},PySem.Paired R as l-> ∃ as',as'.Perm as/\PySem.Paired R as' l':=by
 induction hp with
 | nil=>intro as h;exact ⟨as,.refl _,h⟩
 | cons x _ ih=>
  intro as h
  cases h with
  | cons r t=>
   obtain ⟨as',h1,h2⟩:=ih t
   exact ⟨_::as',h1.cons _,.cons r h2⟩
 | swap x y l=>
  intro as h
  cases h with
  | cons r t=>
   cases t with
   | cons r2 t2=>exact ⟨_,.swap _ _ _,.cons r2 (.cons r t2)⟩
 | trans _ _ ih1 ih2=>
  intro as h
  obtain ⟨a1,g1,g2⟩:=ih2 h
  obtain ⟨a2,g3,g4⟩:=ih1 g2
  exact ⟨a2,g3.trans g1,g4⟩
noncomputable def zob {α:Type} (lt:α->α->Bool) (x:α):List α->List α
 | []=>[x]
 | y::r=>if lt x y then x::y::r else y::zob lt x r
noncomputable def zf2 {α:Type} (lt:α->α->Bool):List α->List α
 | []=>[]
 | x::r=>zob lt x (zf2 lt r)
theorem zd3 {α:Type} (lt:α->α->Bool) (x:α): ∀ l:List α,(zob lt x l).Perm (x::l)
 | []=> .refl _
 | y::r=>by
  unfold zob
  split
  ·exact .refl _
  ·exact ((zd3 lt x r).cons y).trans (.swap _ _ _)
theorem zcw {α:Type} (lt:α->α->Bool): ∀ l:List α,(zf2 lt l).Perm l
 | []=> .refl _
 | x::r=>(zd3 lt x _).trans ((zcw lt r).cons x)
theorem zje (O:KeyOrd) (x:O.α): ∀ l:List O.α,l.Pairwise O.kle->(zob O.blt x l).Pairwise O.kle
 | [],_=>List.pairwise_singleton _ _
 | y::r,h=>by
  unfold zob
  have h':=qay.mp h
  split
  ·rename_i hl
   refine qay.mpr ⟨fun z hz=> ?_,h⟩
   rcases qaP.mp hz with rfl | hz
   ·exact KeyOrd.kle_of_klt hl
   ·exact KeyOrd.kle_trans (KeyOrd.kle_of_klt hl) (h'.1 z hz)
  ·rename_i hl
   refine qay.mpr ⟨fun z hz=> ?_,zje O x r h'.2⟩
   rcases qaP.mp ((zd3 _ _ _).mem_iff.mp hz) with rfl | hz
   ·exact KeyOrd.kle_of_not_klt hl
   ·exact h'.1 z hz
theorem zg9 (O:KeyOrd): ∀ l:List O.α,(zf2 O.blt l).Pairwise O.kle
 | []=> .nil
 | x::r=>zje O x _ (zg9 O r)
theorem zle (O:KeyOrd) {l l':List O.α} (hp:l'.Perm l) (hs:l'.Pairwise O.kle):l'=zf2 O.blt l:=
 List.Perm.eq_of_pairwise (le:=O.kle) (fun a b _ _ h1 h2=>KeyOrd.kle_antisymm h1 h2) hs (zg9 O l) (hp.trans (zcw _ _).symm)
end TS
namespace L2
open PySem PySem.Spec PyProof.Rows TS
section
variable {X:L2.Cx}
theorem zfr (k:KR) {VA:W.Frag->Hp->V->k.O.α->Prop} (of: ∀ {pins:List (Addr×Obj)} {σ:L2.St} {H:Hp} {s:Shared} {v:V} {u:Value} {p:k.O.α},Inv X pins σ H s->VA X.K H v p->zbg v u->k.At s.heap u p) (hu:X.A.units+60<cLine):
  zax X (.builtin "sorted") (fun xs H Q=> ∃ (a:Addr) (zs:List (V×k.O.α)),xs=[.ref a]/\SqL X.K H a (zs.map (·.1))/\(∀ z,z∈zs->VA X.K H z.1 z.2)/\
    ∀ zs':List (V×k.O.α),zs'.Perm zs->zs'.Pairwise (fun x y=>k.O.kle x.2 y.2)-> ∀ l,H l=none->Q (.ref l) (upd H l (.lst (zs'.map (·.1))))):=by
 intro pins s σ H xs us Q I r h
 obtain ⟨a,zs,rfl,hq,hv,q⟩:=h
 obtain ⟨u,rfl,rx⟩:=zcS r
 cases rx
 obtain ⟨its,r',pl,hz⟩:=I.list hq
 have lz:its.length=zs.length:=by rw [<- r'.length,qaH]
 have mk: ∀ {zs:List (V×k.O.α)} {its:List Value},zaI (zs.map (·.1)) its->(∀ z,z∈zs->VA X.K H z.1 z.2)->PySem.Paired (fun z u=>zbg z.1 u/\k.At s.heap u z.2) zs its:=by
  intro zs
  induction zs with
  | nil=>intro its h _;cases h;exact .nil
  | cons z zs ih=>
   intro its h hv
   cases h with
   | cons r t=>exact .cons ⟨r,of I (hv z (qau ..)) r⟩ (ih t fun y hy=>hv y (qan _ hy))
 have hp:=mk r' hv
 have back: ∀ {zs:List (V×k.O.α)} {its:List Value},PySem.Paired (fun z u=>zbg z.1 u/\k.At s.heap u z.2) zs its->zaI (zs.map (·.1)) its/\(its.Pairwise (fun x y=>k.O.kle (k.ky s.heap x) (k.ky s.heap y))->zs.Pairwise (fun x y=>k.O.kle x.2 y.2))/\(∀ u,u∈its-> ∃ p,k.At s.heap u p)/\ ∀ y,y∈zs-> ∃ u,u∈its/\k.ky s.heap u=y.2:=by
  intro zs its h
  induction h with
  | nil=>exact ⟨.nil,fun _=> .nil,fun u hu=>(qaF hu).elim,fun u hu=>(qaF hu).elim⟩
  | cons r t ih=>
   obtain ⟨i1,i2,i3,i4⟩:=ih
   refine ⟨.cons r.1 i1,fun hh=> ?_,fun u hu=> ?_,fun y hy=> ?_⟩
   ·have hh':=qay.mp hh
    refine qay.mpr ⟨fun y hy=> ?_,i2 hh'.2⟩
    obtain ⟨u,u1,u2⟩:=i4 y hy
    have:=hh'.1 u u1
    rw [u2,KR.ky_eq r.2] at this
    exact this
   ·rcases qaP.mp hu with rfl | hu
    ·exact ⟨_,r.2⟩
    ·exact i3 u hu
   ·rcases qaP.mp hy with rfl | hy
    ·exact ⟨_,qau .., KR.ky_eq r.2⟩
    ·obtain ⟨u,u1,u2⟩:=i4 y hy
     exact ⟨u,qan _ u1,u2⟩
 have zl:its.length<=sizeLine:=by rw [lz, <-qaH (f:=(·.1))];exact hz
 refine zh7 fun E'=>collect_list pl.isList ?_ zl
 have kp: ∀ b ob,s.heap.get? b=some ob->((s.heap.push (seqObj "list" #[] 0)).update s.heap.objs.size (Obj.mapSeq fun x=>x++its.toArray)).get? b=some ob:=fun b ob eb=>
  (qah _ _ (fun z=>qaN _ (z▸qaQ eb))).trans (qag _ eb)
 refine ⟨zl,_,_,_,_,k.srt (by rw [Around.in1_units,Around.in1_units];omega) (fun v hv=> ?_),fun out e h' ho hs k2 e2=> ?_⟩
 ·obtain ⟨p,hp'⟩:=(back hp).2.2.1 v hv
  exact ⟨p,k.keep kp hp'⟩
 ·obtain ⟨zs',g1,g2⟩:=ziJ ho hp
  obtain ⟨b1,b2,b3,_⟩:=back g2
  have I1:=I.grown (s':={s with heap:=(s.heap.push (seqObj "list" #[] 0)).update s.heap.objs.size (Obj.mapSeq fun x=>x++its.toArray)}) rfl rfl kp
  refine ⟨.ref _,_,I1.laid (t':=s.toks) (o:= .lst (zs'.map (·.1))) k2 (qaV _) ⟨?_,out,e,b1,e2⟩,rfl,q zs' g1 (b2 ?_) _ (I1.hok.fresh (qaV _))⟩
  ·rw [qaH,g1.length_eq, <-lz]
   exact zl
  ·refine List.Pairwise.imp_of_mem ?_ hs
   intro x y hx hy hxy
   obtain ⟨p,hp'⟩:=b3 x hx
   obtain ⟨q',hq'⟩:=b3 y hy
   rw [KR.ky_eq (k.keep kp hp'),KR.ky_eq (k.keep kp hq')] at hxy
   rw [KR.ky_eq hp',KR.ky_eq hq']
   exact hxy
end
end L2
namespace L3
open PySem PySem.Spec PyProof.Rows L2 TS
section
variable {X:L2.Cx} {E:XE}
noncomputable def mkT (p:List Int):D:= .tup (p.map D.int)
theorem zhC: ∀ {ds:List D} {ns:List Int},zbI ds=some ns->ds=ns.map D.int
 | [],ns,e=>by cases e;rfl
 | d::r,ns,e=>by
  unfold zbI at e
  cases d with
  | int i=>
   dsimp only at e
   cases z:zbI r with
   | none=>rw [z] at e;cases e
   | some ms=>
    rw [z] at e
    cases e
    rw [qaM,zhC z]
  | _=>cases e
noncomputable def ziW:D->Option (List Int)
 | .tup ds=>match zbI ds with
  | some []=>none
  | o=>o
 | _=>none
noncomputable def zfK {α:Type} (f:D->Option α):List D->Option (List α)
 | []=>some []
 | d::r=>(f d).bind fun p=>(zfK f r).map fun ps=>p::ps
noncomputable def zjp {α:Type} (f:D->Option α) (mk:α->D) (lt:α->α->Bool):List D->M D:=zkD fun d=>do
 let ds<-zkc d
 let ps<-ofO (match d with | .tup _=>none | _=>zfK f ds)
 pure (.lst ((zf2 lt ps).map mk))
noncomputable def zhK:List D->M D:=zjp ziW mkT HT.zci
theorem zfX {α:Type} {f:D->Option α} {mk:α->D} {K:W.Frag} {ι:Io} {H:Hp} {VA:V->α->Prop} (hf: ∀ {d v p},Rel K ι H d v->f d=some p->d=mk p/\VA v p): ∀ {ds:List D} {vs:List V} {ps:List α},zal K ι H ds vs->zfK f ds=some ps->
  ∃ zs:List (V×α),zs.map (·.1)=vs/\zs.map (·.2)=ps/\ ∀ z,z∈zs->VA z.1 z.2/\Rel K ι H (mk z.2) z.1
 | [],vs,ps,h,e=>by
  simp only [zal] at h
  subst h
  cases e
  exact ⟨[],rfl,rfl,fun z hz=>(qaF hz).elim⟩
 | d::r,vs,ps,h,e=>by
  simp only [zal] at h
  obtain ⟨v,r',rfl,h1,h2⟩:=h
  unfold zfK at e
  cases z:f d with
  | none=>rw [z] at e;cases e
  | some p=>
   rw [z] at e
   cases z2:zfK f r with
   | none=>rw [z2] at e;cases e
   | some qs=>
    rw [z2] at e
    cases e
    obtain ⟨zs,g1,g2,g3⟩:=zfX hf h2 z2
    obtain ⟨k1,k2⟩:=hf h1 z
    refine ⟨(v,p)::zs,by rw [qaM,g1],by rw [qaM,g2],fun y hy=> ?_⟩
    rcases qaP.mp hy with rfl | hy
    ·exact ⟨k2,k1▸h1⟩
    ·exact g3 y hy
theorem zhz {α:Type} {mk:α->D} {K:W.Frag} {ι:Io} {H:Hp}: ∀ {zs:List (V×α)},(∀ z,z∈zs->Rel K ι H (mk z.2) z.1)->zal K ι H ((zs.map (·.2)).map mk) (zs.map (·.1))
 | [],_=>by simp [zal]
 | z::zs,h=>by
  simp only [qaM,zal]
  exact ⟨_,_,rfl,h z (qau ..),zhz fun y hy=>h y (qan _ hy)⟩
theorem zgE (k:KR) {f:D->Option k.O.α} {mk:k.O.α->D} {VA:W.Frag->Hp->V->k.O.α->Prop} (of: ∀ {pins:List (Addr×Obj)} {σ:L2.St} {H:Hp} {s:Shared} {v:V} {u:Value} {p:k.O.α},Inv X pins σ H s->VA X.K H v p->zbg v u->k.At s.heap u p)
  (hf: ∀ {ι:Io} {H:Hp} {d:D} {v:V} {p:k.O.α},Rel X.K ι H d v->f d=some p->d=mk p/\VA X.K H v p) (hu:X.A.units+60<cLine):zax X (.builtin "sorted") (zgO X.K E (zjp f mk k.O.blt)):=by
 refine zax.imp (zfr k of hu) fun xs H Q ⟨ι,h,ds,rl,hr,q⟩=> ?_
 obtain ⟨d,v,e,r,q⟩:=zcc rl q
 obtain ⟨a,vs,ds',e',hs,rl',q⟩:=zcQ hr r q
 obtain ⟨ps,ep,q⟩:=Fin.ofOb q
 rcases hs with ⟨hs,hd⟩ | ⟨hs,hd⟩
 ·have ep':zfK f ds'=some ps:=by
   cases d with
   | tup ts=>exact absurd rfl (hd ts)
   | _=>exact ep
  obtain ⟨zs,g1,g2,g3⟩:=zfX (VA:=VA X.K H) hf rl' ep'
  refine ⟨a,zs,by rw [e,e'],by rw [g1];exact hs,fun z hz=>(g3 z hz).1,fun zs' hp hw l hl=> ?_⟩
  have e3:zs'.map (·.2)=zf2 k.O.blt ps:=by
   refine zle k.O ?_ ?_
   ·rw [<- g2];exact hp.map _
   ·rw [List.pairwise_map];exact hw
  refine znH (E:=E) hr (zhz (mk:=mk) (zs:=zs') fun z hz=>(g3 z (hp.mem_iff.mp hz)).2) ?_ hl
  rw [e3]
  exact q
 ·subst hd
  cases ep
def zsg (K:W.Frag) (H:Hp) (v:V) (p:List Int):Prop:=p≠[]/\ ∃ a,v= .ref a/\SqT K H a (p.map V.int)
theorem zgU (hu:X.A.units+60<cLine):zax X (.builtin "sorted") (zgO X.K E zhK):=
 zgE krT (VA:=zsg) (fun I h r=>by
   obtain ⟨h0,a,rfl,h1⟩:=h
   cases r
   obtain ⟨its,r1,p1,_⟩:=I.tuple h1
   exact ⟨⟨a,its,rfl,p1,zbd r1⟩,h0⟩) (fun {ι H d v p} r e=>by
   unfold ziW at e
   split at e
   · rename_i ds
     obtain ⟨a,vs,rfl,h1,h2⟩:=zck r
     cases z:zbI ds with
     | none=>rw [z] at e;cases e
     | some ns=>
       rw [z] at e
       cases ns with
       | nil=>cases e
       | cons n ns=>
         cases e
         have:=zb1 h2 z
         subst this
         exact ⟨by rw [zhC z];rfl,by simp,a,rfl,h1⟩
   · cases e) hu
end
end L3
namespace L3
open PySem PySem.Spec PyProof.Rows L2
section
variable {X:Cx} {E:XE}
end
section
variable {X:Cx} {E:XE} {scope:Scope} {N:List Str} {src:List (Option Nat)} {tg iter elt:Expr} {ifs:List Expr} {pos:Pos}
theorem zsw {K:W.Frag} {g:D->Sd->M Sd} {tc:Sd->M Bool} {te:Sd->M D} {J:It} {ds:List D} {ι:Io} {H:Hp} {h:Hh} {sd:Sd} {σ:L2.St} {Q:VK} {p:Addr} (hk:zat g src) (L:zbu K ι H sd σ) (hr:zaN K ι H h) (ok:zog K ι H J ds) (hz:ds.length<=sizeLine)
  (q:Fin K E ι H ((do let ys<-za1 (zaH g tc te (zae src sd)) ds;za7 ys) h) fun d ι' H'=> ∀ v,Rel K ι' H' d v->Q v H') (hp:H p=none):
  zo2 J (znv K E g) (zeg K E tc) (zeR K E te) (bStart src σ) H p fun H'=>Q (.ref p) H':=by
 generalize hP:(fun (d:D) (ι':Io) (H':Hp)=> ∀ v,Rel K ι' H' d v->Q v H')=P at q
 generalize hf:zaH g tc te (zae src sd)=f at q
 have hpx:p∉ι.x:=fun z=>hr.nin hp (.inr z)
 have h0len:(zae src sd).length=src.length:=by unfold zae;rw [qaH]
 have h0non: ∀ (i:Nat),src[i]? = some none->(zae src sd)[i]? = some none:=fun i e=>by unfold zae;rw [List.getElem?_map,e];rfl
 refine ⟨fun i m σ' H'=>m=ds.length - i/\i<=ds.length/\ ∃ ι' h' done vs,ι'.x=p::ι.x/\zaW ι H ι'.show H'/\zbu K ι' H' (zae src sd) σ'/\zaN K ι' H' h'/\H' p=some (.lst vs)/\zal K ι' H' done vs/\done.length<=i/\
     Fin K E ι H ((do let ys<-za1 f (ds.drop i);za7 (done++ys)) h') P,
   ⟨_,rfl,Nat.zero_le _,ι.hide p,h,[],[],rfl,?_,L.bStart.pass (zda hp),hr.hide hp,zau,zal.nil,qaV _,?_⟩,?_⟩
 ·have:=hr.laidS (o:= .lst []) hp
  exact ⟨this.old,this.new,this.hid,this.hidk,this.keep⟩
 ·simpa using q
 rintro i m σ2 H2 ⟨rfl,hi2,ι2,h2,done,vs,hx2,s2,L2,hr2,e2,rl2,dl2,q2⟩
 have ps2:Pass ι H ι2 H2:=⟨s2.old,fun b o hb n=>⟨s2.keep b o hb n,fun z=>by
   rcases z with z | z
   · exact s2.nin hb n (.inl z)
   · rw [hx2] at z
     rcases qaP.mp z with z | z
     · rw [z,hp] at hb;cases hb
     · exact n (.inr z)⟩⟩
 have hp2:p∈ι2.x:=by rw [hx2];exact qau
 have base: ∀ {ι':Io} {H':Hp},zaW ι2 H2 ι' H'->zaW ι H ι'.show H':=fun t=>s2.trans (t.shown hx2)
 by_cases hlt:i<ds.length
 ·right
  refine ⟨ok.go ι2 H2 i ps2 hlt,fun σ' H'=>i+1<=ds.length/\ ∃ ι' h' done vs,ι'.x=p::ι.x/\zaW ι H ι'.show H'/\zbu K ι' H' (zae src sd) σ'/\zaN K ι' H' h'/\H' p=some (.lst vs)/\zal K ι' H' done vs/\done.length<=i+1/\
    Fin K E ι H ((do let ys<-za1 f (ds.drop (i+1));za7 (done++ys)) h') P,fun σ' H' z=>⟨ds.length - (i+1),by omega,rfl,z.1,z.2⟩,fun x H3 y=> ?_⟩
  obtain ⟨gr,d,ed,rd⟩:=ok.yld ι2 H2 h2 i x H3 ps2 hr2 hlt y
  obtain ⟨s3,hr3⟩:=gr.step hr2
  have edr:ds.drop i=d::ds.drop (i+1):=by
   rw [qae hlt]
   rw [qaf hlt] at ed
   rw [Option.some.inj ed]
  rw [edr] at q2
  have q3:=q2
  have st3:zaW ι2 H2 ι2 H3:=s3
  have e3:H3 p=some (.lst vs):=by rw [s3.hidk p hp2];exact e2
  have eq1:(do let ys<-za1 f (d::ds.drop (i+1));za7 (done++ys):M D)=(g d (zae src sd)>>=fun sd1=>tc sd1>>=fun c=>if c=true then (te sd1>>=fun y=>za1 f (ds.drop (i+1))>>=fun ys=>za7 (done++[y]++ys)) else (za1 f (ds.drop (i+1))>>=fun ys=>za7 (done++ys))):=by
   rw [za1]
   rw [<- hf]
   simp only [zaH,bind_assoc]
   refine congrArg _ (funext fun sd1=> ?_)
   refine congrArg _ (funext fun c=> ?_)
   cases c with
   | true=>simp only [if_true,bind_assoc,pure_bind,List.append_assoc,List.cons_append,List.nil_append]
   | false=>simp only [qax,if_false,pure_bind]
  rw [eq1] at q3
  refine ⟨ι2,h2,zae src sd,d,L2.step s3,hr3,rd,?_⟩
  refine Fin.bindB q3 (fun ι' H' h' s hr'=>⟨ι'.show,base (s3.trans s),hr'.show⟩) fun sd4 h4 ι4 H4 e4 s4 hr4 q4 σ4 L4=> ?_
  have hx4:ι4.x=p::ι.x:=by rw [s4.hid];exact hx2
  obtain ⟨k1,k2⟩:=hk d _ h2 sd4 h4 h0len h0non e4
  refine ⟨ι4,h4,sd4,L4,hr4,Fin.bindB q4 (fun ι' H' h' s hr'=>⟨ι'.show,base ((s3.trans s4).trans s),hr'.show⟩) fun c h5 ι5 H5 e5 s5 hr5 q5=> ?_⟩
  have hx5:ι5.x=p::ι.x:=by rw [s5.hid];exact hx4
  have sub: ∀ {ι':Io} {H':Hp},zbu K ι' H' sd4 σ4->zbu K ι' H' (zae src sd) σ4:=fun {ι' H'} z=>⟨by rw [<- k1];exact z.1,fun j d' e=>z.2 j d' (k2 j d' (fun w=>by rw [h0non j w] at e;cases e) e)⟩
  have st5:zaW ι2 H2 ι5 H5:=(s3.trans s4).trans s5
  cases c with
  | false=>
   exact zms ⟨hlt,ι5,h5,done,vs,hx5,base st5,sub (L4.step s5),hr5,by rw [st5.hidk p hp2];exact e2,rl2.step st5,Nat.le_succ_of_le dl2,q5⟩
  | true=>
   refine zmq ⟨ι5,h5,sd4,L4.step s5,hr5,Fin.bindB q5 (fun ι' H' h' s hr'=>⟨ι'.show,base (st5.trans s),hr'.show⟩) fun yd h6 ι6 H6 e6 s6 hr6 q6 y ry=> ?_⟩
   have st6:zaW ι2 H2 ι6 H6:=st5.trans s6
   have hx6:ι6.x=p::ι.x:=by rw [s6.hid];exact hx5
   have hp6:p∈ι6.x:=by rw [hx6];exact qau
   have e6':H6 p=some (.lst vs):=by rw [st6.hidk p hp2];exact e2
   refine ⟨vs,e6',by rw [<- rl2.length];omega,hlt,ι6,h6,done++[yd],vs++[y],hx6,zem hp hpx hx2 s2 st6,?_,hr6.hid hp6,zau,?_,?_,?_⟩
   ·exact ((sub (L4.step s5)).step s6).pass (zcd hp6)
   ·exact ((rl2.step st6).append (zal.cons ry zal.nil)).pass (zcd hp6)
   ·rw [qav,List.length_singleton];omega
   ·exact q6
 ·left
  have e:i=ds.length:=by omega
  subst e
  refine ⟨ok.stop ι2 H2 ps2,?_⟩
  rw [List.drop_length] at q2
  have hin:p∈ι2.x:=hp2
  have hpc:some p∉ι2.c:=(hr2.hidt p hin).2
  have htl:ι2.x.tail=ι.x:=by rw [hx2];rfl
  have q3:Fin K E ι H (za7 done h2) P:=by
   have:Fin K E ι H ((za7 (done++[]):M D) h2) P:=q2
   rw [List.append_nil] at this
   exact this
  have hmem: ∀ a,some a∈ι2.c++[some p]↔some a∈ι2.c\/a=p:=fun a=>by simp
  have ps:Pass ι2 H2 ⟨ι2.c++[some p],ι.x⟩ H2:=by
   refine ⟨fun n o h=> .inl ?_,fun b o hb n=>⟨hb,fun z=> ?_⟩⟩
   ·show (ι2.c++[some p])[n]? = _
    rw [qad (qac.mp h).1]
    exact h
   ·rcases z with z | z
    ·rcases (hmem b).mp z with z | z
     ·exact n (.inl z)
     ·exact n (.inr (z▸hin))
    ·exact n (.inr (by rw [hx2];exact qan _ z))
  have st:zaW ι H ⟨ι2.c++[some p],ι.x⟩ H2:=by
   refine ⟨fun n o h=> ?_,fun a h=> ?_,rfl,s2.hidk,s2.keep⟩
   ·rcases s2.old n o h with z | z
    ·left
     have z:ι2.c[n]? = some o:=z
     show (ι2.c++[some p])[n]? = _
     rw [qad (qac.mp z).1]
     exact z
    ·right
     have z:ι2.c[n]? = some none:=z
     show (ι2.c++[some p])[n]? = _
     rw [qad (qac.mp z).1]
     exact z
   ·rcases (hmem a).mp h with z | z
    ·exact s2.new a z
    ·exact .inr (z▸hp)
  have hr3:zaN K ⟨ι2.c++[some p],ι.x⟩ H2 (h2++[.lst done]):=by
   have hl:=hr2.len
   refine ⟨by simp [hl],fun a b c ha hb=> ?_,fun n a c ha hc=> ?_,fun n hn=> ?_,fun a ha=> ?_⟩
   ·have ha:(ι2.c++[some p])[a]? = some (some c):=ha
    have hb:(ι2.c++[some p])[b]? = some (some c):=hb
    have key: ∀ n,(ι2.c++[some p])[n]? = some (some c)->(n<ι2.c.length/\ι2.c[n]? = some (some c))\/(n=ι2.c.length/\c=p):=fun n hn=>by
     by_cases hlt':n<ι2.c.length
     ·rw [qad hlt'] at hn
      exact .inl ⟨hlt',hn⟩
     ·have:=(qac.mp hn).1
      rw [qav,List.length_singleton] at this
      have e:n=ι2.c.length:=by omega
      subst e
      rw [qaa (qaV _)] at hn
      simp at hn
      exact .inr ⟨rfl,hn.symm⟩
    rcases key a ha with ⟨l1,a1⟩ | ⟨a1,a2⟩<;>rcases key b hb with ⟨l2,b1⟩ | ⟨b1,b2⟩
    ·exact hr2.inj a b c a1 b1
    ·exact absurd (List.mem_of_getElem? a1) (b2▸hpc)
    ·exact absurd (List.mem_of_getElem? b1) (a2▸hpc)
    ·omega
   ·have ha:(ι2.c++[some p])[n]? = some (some a):=ha
    by_cases hlt':n<ι2.c.length
    ·rw [qad hlt'] at ha
     rw [qad (by omega)] at hc
     obtain ⟨o',e2',e3'⟩:=hr2.at_ n a c ha hc
     exact ⟨o',e2',e3'.pass ps⟩
    ·have:=(qac.mp ha).1
     rw [qav,List.length_singleton] at this
     have e:n=ι2.c.length:=by omega
     subst e
     rw [qaa (qaV _)] at ha
     rw [<- hl,qaa (qaV _)] at hc
     simp at ha hc
     subst ha
     subst hc
     exact ⟨_,e2,vs,rfl,rl2.pass ps⟩
   ·have hn:(ι2.c++[some p])[n]? = some none:=hn
    by_cases hlt':n<ι2.c.length
    ·rw [qad hlt'] at hn
     rw [qad (by omega)]
     exact hr2.dead n hn
    ·have:=(qac.mp hn).1
     rw [qav,List.length_singleton] at this
     have e:n=ι2.c.length:=by omega
     subst e
     rw [qaa (qaV _)] at hn
     simp at hn
   ·have h1:=hr2.hidt a (by rw [hx2];exact qan _ ha)
    exact ⟨h1.1,fun z=>by
      rcases (hmem a).mp z with z | z
      · exact h1.2 z
      · exact hpx (z▸ha)⟩
  have q4:P (.cel h2.length) ⟨ι2.c++[some p],ι.x⟩ H2:=q3 _ _ st hr3
  rw [<- hP] at q4
  refine q4 (.ref p) ?_
  simp only [Rel]
  refine ⟨p,rfl,.inl ?_⟩
  show (ι2.c++[some p])[h2.length]? = _
  rw [hr2.len,qaa (qaV _)]
  simp
noncomputable def zfm (fi:Sd->M (List D)) (g:D->Sd->M Sd) (tc:Sd->M Bool) (te:Sd->M D) (src:List (Option Nat)):Sd->M D:=fun sd=>do
 let ds<-fi sd
 fits ds.length
 let ys<-za1 (zaH g tc te (zae src sd)) ds
 za7 ys
theorem zll {K:W.Frag} {fi:Sd->M (List D)} {g:D->Sd->M Sd} {tc:Sd->M Bool} {te:Sd->M D} (hk:zat g src) (σ:L2.St) (H:Hp) (Q:VK) (q:zeR K E (zfm fi g tc te src) σ H Q):
  zjS (zqH K E fi) (znv K E g) (zeg K E tc) (zeR K E te) src σ H Q:=by
 obtain ⟨ι,h,sd,L,hh,q⟩:=q
 refine ⟨ι,h,sd,L,hh,Fin.bind q fun ds h1 ι1 H1 e1 s1 hr1 q1 J ok p hp=> ?_⟩
 obtain ⟨z,q2⟩:=Fin.fits q1
 exact zsw hk (L.step s1) hr1 ok z q2 hp
theorem zn9 {fi:FA} {g:D->Sd->M Sd} {tc:FT} {te:FE} (hc:X.calm=true) (B:BOk X scope N src) (hk:zat g src) (hi:SI X E tg iter fi)
  (hg: ∀ s H fp,SG (cxB X scope N s H fp) E tg g) (ht: ∀ s H fp,SCs (cxB X scope N s H fp) E ifs tc) (he: ∀ s H fp,SE (cxB X scope N s H fp) E elt te)
  (hs: ∀ x,foldedSetIterable iter X.env x=pure x:=by intro _;rfl):SE X E (.ListComp elt [⟨tg,iter,ifs,0⟩] scope pos) (zfm fi g tc te src):=
 PE.imp (zgv B hi hg ht he hs) (zll hk)
end
end L3
namespace L3
open PySem
open Sem (wp)
open AutoSeq1 (wpAny_loadPart')
section
variable {prog:Program} {w:World} {A:Around} {E:Value->Shared->Prop} {s:Shared}
end
end L3
namespace L2
open PySem PySem.Spec PyProof.Rows
section
variable {X:Cx} {elts:List Expr} {k:Nat} {tpos:Pos}
end
end L2
namespace L3
open PySem PySem.Spec PyProof.Rows L2
section
variable {X:Cx} {E:XE} {elts:List Expr} {k:Nat} {tpos pos:Pos}
end
end L3
namespace L2
open PySem PySem.Spec PyProof.Rows
section
variable {κ:Type} [DecidableEq κ]
noncomputable def zr4 (kvs:List (κ×V)) (k:κ) (v:V):List (κ×V):=
 if (kvs.any fun kv=>decide (kv.1=k))=true then kvs.map (fun kv=>if kv.1=k then (kv.1,v) else kv) else kvs++[(k,v)]
theorem KV.any {kvs:List (κ×V)} {vs:List (κ×Value)} (r:KV kvs vs) (k:κ):(kvs.any fun kv=>decide (kv.1=k))=vs.any fun kv=>decide (kv.1=k):=by
 unfold KV at r
 induction r with
 | nil=>rfl
 | cons h t ih=>rw [List.any_cons,List.any_cons,ih,h.1]
theorem KV.repl {kvs:List (κ×V)} {vs:List (κ×Value)} (r:KV kvs vs) (k:κ) {y:V} {u:Value} (ry:zbg y u):
  KV (kvs.map fun kv=>if kv.1=k then (kv.1,y) else kv) (vs.map fun kv=>if kv.1=k then (kv.1,u) else kv):=by
 unfold KV at r ⊢
 induction r with
 | nil=>exact .nil
 | @cons p q ps qs h t ih=>
  rw [qaM,qaM]
  refine .cons ?_ ih
  obtain ⟨h1,h2⟩:=h
  by_cases e:p.1=k
  ·rw [qa4 e,qa4 (h1.symm.trans e)];exact ⟨h1,ry⟩
  ·rw [qa5 e,qa5 (fun z=>e (h1.trans z))];exact ⟨h1,h2⟩
theorem KV.put {kvs:List (κ×V)} {vs:List (κ×Value)} (r:KV kvs vs) (k:κ) {y:V} {u:Value} (ry:zbg y u):KV (zr4 kvs k y) (stored vs k u):=by
 unfold zr4 stored
 rw [r.any k]
 by_cases e:(vs.any fun kv=>decide (kv.1=k))=true
 ·rw [qa4 e,qa4 e];exact r.repl k ry
 ·rw [qa5 e,qa5 e];exact Paired.snoc r ⟨rfl,ry⟩
theorem KV.length {kvs:List (κ×V)} {vs:List (κ×Value)} (r:KV kvs vs):kvs.length=vs.length:=Paired.length r
end
section
variable {X:Cx}
end
end L2
namespace L3
open PySem PySem.Spec PyProof.Rows L2
section
variable {X:L2.Cx} {E:XE}
end
open LT
section
variable {h:Hh}
end
end L3
namespace L3
open PySem PySem.Spec PyProof.Rows L2
structure Fd (K:W.Frag) (x:Str) (st:Stmt) (a:Addr) (d:FuncData):Prop where
 e:W.nsIn K mainGlobals x=some (some (.ref a))
 F:Fun K x x st a d
section
variable {X:Cx} {E:XE}
end
end L3
namespace L3
open PySem PyProof.Rows HT
section
open PySem.SeqAt
open PySem.AutoSeq1 (wpAny_loadPart')
open PySem.MeetsSeq PySem.MeetsSeq2 PySem.MeetsSeq3
end
section
variable {prog:Program} {w:World} {A:Around} {E:Value->Shared->Prop} {s:Shared}
end
end L3
namespace L3
open PySem PyProof.Rows
section
open PySem.SeqAt
open PySem.AutoSeq1 (wpAny_loadPart')
open PySem.MeetsSeq PySem.MeetsSeq2 PySem.MeetsSeq3
section
variable {prog:Program} {w:World} {A:Around} {E:Value->Shared->Prop} {s:Shared}
end
end
open PySem.Spec L2
section
variable {X:Cx} {E:XE}
end
end L3
namespace L2
open PySem PySem.Spec PyProof.Rows
section
variable {X:Cx}
end
end L2
namespace L3
open PySem PySem.Spec PyProof.Rows L2
section
variable {X:Cx} {E:XE}
end
open Classical in
noncomputable def chk (n:Nat) (ds:List D):M Unit:=fun h=>if h[n]? = some (.lst ds) then .ok () h else .bad
noncomputable def zbz (n:Nat) (full:List D) (f:D->M (Option D)):List D->M (List D)
 | []=>do chk n full;pure []
 | x::r=>do
  chk n full
  let o<-f x
  let ys<-zbz n full f r
  pure (match o with | some y=>y::ys | none=>ys)
section
variable {X:Cx} {E:XE} {scope:Scope} {N:List Str} {src:List (Option Nat)} {tg iter elt:Expr} {ifs:List Expr} {pos:Pos}
theorem ziC {α β:Type} {K:W.Frag} {ι:Io} {H:Hp} {h:Hh} {n:Nat} {ds:List D} {m:M α} {f:α->M β} {P:β->Io->Hp->Prop} (q:Fin K E ι H ((((do chk n ds;m):M α)>>=f) h) P):h[n]? = some (.lst ds)/\Fin K E ι H ((m>>=f) h) P:=by
 have e:(((do chk n ds;m):M α)>>=f) h=match chk n ds h with | .ok _ h'=>(m>>=f) h' | .exc c h'=> .exc c h' | .bad=> .bad:=by
  show M.bind (M.bind (chk n ds) fun _=>m) f h=_
  unfold M.bind
  cases chk n ds h<;>rfl
 rw [e] at q
 unfold chk at q
 by_cases hc:h[n]? = some (.lst ds)
 ·rw [qa4 hc] at q
  exact ⟨hc,q⟩
 ·rw [qa5 hc] at q
  exact qa0 q
theorem zr7 {n:Nat} {a:Addr} {K:W.Frag} {g:D->Sd->M Sd} {tc:Sd->M Bool} {te:Sd->M D} {ds:List D} {ι:Io} {H:Hp} {h:Hh} {sd:Sd} {σ:L2.St} {Q:VK} {p:Addr} (hk:zat g src) (L:zbu K ι H sd σ) (hr:zaN K ι H h) (hn:ι.c[n]? = some (some a)) (hz:ds.length<=sizeLine)
  (q:Fin K E ι H ((do let ys<-zbz n ds (zaH g tc te (zae src sd)) ds;pure (D.lst ys)) h) fun d ι' H'=> ∀ v,Rel K ι' H' d v->Q v H') (hp:H p=none):
  zo2 (Itl K a) (znv K E g) (zeg K E tc) (zeR K E te) (bStart src σ) H p fun H'=>Q (.ref p) H':=by
 generalize hP:(fun (d:D) (ι':Io) (H':Hp)=> ∀ v,Rel K ι' H' d v->Q v H')=P at q
 generalize hf:zaH g tc te (zae src sd)=f at q
 have hpx:p∉ι.x:=fun z=>hr.nin hp (.inr z)
 have h0len:(zae src sd).length=src.length:=by unfold zae;rw [qaH]
 have h0non: ∀ (i:Nat),src[i]? = some none->(zae src sd)[i]? = some none:=fun i e=>by unfold zae;rw [List.getElem?_map,e];rfl
 refine ⟨fun i m σ' H'=>m=ds.length - i/\i<=ds.length/\ ∃ ι' h' done vs,ι'.x=p::ι.x/\zaW ι H ι'.show H'/\zbu K ι' H' (zae src sd) σ'/\zaN K ι' H' h'/\H' p=some (.lst vs)/\zal K ι' H' done vs/\done.length<=i/\
     Fin K E ι H ((do let ys<-zbz n ds f (ds.drop i);pure (D.lst (done++ys))) h') P,
   ⟨_,rfl,Nat.zero_le _,ι.hide p,h,[],[],rfl,?_,L.bStart.pass (zda hp),hr.hide hp,zau,zal.nil,qaV _,?_⟩,?_⟩
 ·have:=hr.laidS (o:= .lst []) hp
  exact ⟨this.old,this.new,this.hid,this.hidk,this.keep⟩
 ·simpa using q
 rintro i m σ2 H2 ⟨rfl,hi2,ι2,h2,done,vs,hx2,s2,L2,hr2,e2,rl2,dl2,q2⟩
 have ps2:Pass ι H ι2 H2:=⟨s2.old,fun b o hb n=>⟨s2.keep b o hb n,fun z=>by
   rcases z with z | z
   · exact s2.nin hb n (.inl z)
   · rw [hx2] at z
     rcases qaP.mp z with z | z
     · rw [z,hp] at hb;cases hb
     · exact n (.inr z)⟩⟩
 have hp2:p∈ι2.x:=by rw [hx2];exact qau
 have base: ∀ {ι':Io} {H':Hp},zaW ι2 H2 ι' H'->zaW ι H ι'.show H':=fun t=>s2.trans (t.shown hx2)
 have fact:h2[n]? = some (.lst ds)-> ∃ vs2,H2 a=some (.lst vs2)/\zal K ι2 H2 ds vs2:=fun hc=>by
  have hn2:ι2.c[n]? = some (some a):=by
   rcases s2.old n (some a) hn with z | z
   ·exact z
   ·have:=hr2.dead n z
    rw [hc] at this
    cases this
  obtain ⟨o,e1,e2⟩:=hr2.at_ n a _ hn2 hc
  obtain ⟨vs2,rfl,rl⟩:=e2
  exact ⟨vs2,e1,rl⟩
 by_cases hlt:i<ds.length
 ·right
  have edr:ds.drop i=ds[i]::ds.drop (i+1):=qae hlt
  rw [edr,zbz] at q2
  obtain ⟨hc,q2⟩:=ziC q2
  obtain ⟨vs2,ev2,rlv⟩:=fact hc
  have sq:SqL K H2 a vs2:= .inl (.inl ev2)
  have hlv:=rlv.length
  refine ⟨⟨vs2,vs2[i]'(by omega),sq,by simp⟩,fun σ' H'=>i+1<=ds.length/\ ∃ ι' h' done vs,ι'.x=p::ι.x/\zaW ι H ι'.show H'/\zbu K ι' H' (zae src sd) σ'/\zaN K ι' H' h'/\H' p=some (.lst vs)/\zal K ι' H' done vs/\done.length<=i+1/\
    Fin K E ι H ((do let ys<-zbz n ds f (ds.drop (i+1));pure (D.lst (done++ys))) h') P,fun σ' H' z=>⟨ds.length - (i+1),by omega,rfl,z.1,z.2⟩,fun x H3 y=> ?_⟩
  obtain ⟨eH,y⟩:=y
  have eH:=eH.symm
  subst eH
  obtain ⟨d,ed,rd⟩:=rlv.getV (y vs2 sq)
  have s3:zaW ι2 H2 ι2 H2:=zaW.refl _ _
  have hr3:=hr2
  rw [qaf hlt] at ed
  rw [Option.some.inj ed] at q2
  have q3:=q2
  have st3:zaW ι2 H2 ι2 H2:=s3
  have e3:H2 p=some (.lst vs):=e2
  have eq1:((do let o<-f d;let ys<-zbz n ds f (ds.drop (i+1));pure (match o with | some y=>y::ys | none=>ys))>>=fun ys=>pure (D.lst (done++ys)):M D)=(g d (zae src sd)>>=fun sd1=>tc sd1>>=fun c=>if c=true then (te sd1>>=fun y=>zbz n ds f (ds.drop (i+1))>>=fun ys=>pure (D.lst (done++[y]++ys))) else (zbz n ds f (ds.drop (i+1))>>=fun ys=>pure (D.lst (done++ys)))):=by
   rw [<- hf]
   simp only [zaH,bind_assoc]
   refine congrArg _ (funext fun sd1=> ?_)
   refine congrArg _ (funext fun c=> ?_)
   cases c with
   | true=>simp only [if_true,bind_assoc,pure_bind,List.append_assoc,List.cons_append,List.nil_append]
   | false=>simp only [qax,if_false,pure_bind]
  rw [eq1] at q3
  refine ⟨ι2,h2,zae src sd,d,L2.step s3,hr3,rd,?_⟩
  refine Fin.bindB q3 (fun ι' H' h' s hr'=>⟨ι'.show,base (s3.trans s),hr'.show⟩) fun sd4 h4 ι4 H4 e4 s4 hr4 q4 σ4 L4=> ?_
  have hx4:ι4.x=p::ι.x:=by rw [s4.hid];exact hx2
  obtain ⟨k1,k2⟩:=hk d _ h2 sd4 h4 h0len h0non e4
  refine ⟨ι4,h4,sd4,L4,hr4,Fin.bindB q4 (fun ι' H' h' s hr'=>⟨ι'.show,base ((s3.trans s4).trans s),hr'.show⟩) fun c h5 ι5 H5 e5 s5 hr5 q5=> ?_⟩
  have hx5:ι5.x=p::ι.x:=by rw [s5.hid];exact hx4
  have sub: ∀ {ι':Io} {H':Hp},zbu K ι' H' sd4 σ4->zbu K ι' H' (zae src sd) σ4:=fun {ι' H'} z=>⟨by rw [<- k1];exact z.1,fun j d' e=>z.2 j d' (k2 j d' (fun w=>by rw [h0non j w] at e;cases e) e)⟩
  have st5:zaW ι2 H2 ι5 H5:=(s3.trans s4).trans s5
  cases c with
  | false=>
   exact zms ⟨hlt,ι5,h5,done,vs,hx5,base st5,sub (L4.step s5),hr5,by rw [st5.hidk p hp2];exact e2,rl2.step st5,Nat.le_succ_of_le dl2,q5⟩
  | true=>
   refine zmq ⟨ι5,h5,sd4,L4.step s5,hr5,Fin.bindB q5 (fun ι' H' h' s hr'=>⟨ι'.show,base (st5.trans s),hr'.show⟩) fun yd h6 ι6 H6 e6 s6 hr6 q6 y ry=> ?_⟩
   have st6:zaW ι2 H2 ι6 H6:=st5.trans s6
   have hx6:ι6.x=p::ι.x:=by rw [s6.hid];exact hx5
   have hp6:p∈ι6.x:=by rw [hx6];exact qau
   have e6':H6 p=some (.lst vs):=by rw [st6.hidk p hp2];exact e2
   refine ⟨vs,e6',by rw [<- rl2.length];omega,hlt,ι6,h6,done++[yd],vs++[y],hx6,zem hp hpx hx2 s2 st6,?_,hr6.hid hp6,zau,?_,?_,?_⟩
   ·exact ((sub (L4.step s5)).step s6).pass (zcd hp6)
   ·exact ((rl2.step st6).append (zal.cons ry zal.nil)).pass (zcd hp6)
   ·rw [qav,List.length_singleton];omega
   ·exact q6
 ·left
  have e:i=ds.length:=by omega
  subst e
  rw [List.drop_length,zbz] at q2
  obtain ⟨hc,q2⟩:=ziC q2
  obtain ⟨vs2,ev2,rlv⟩:=fact hc
  refine ⟨⟨vs2,.inl (.inl ev2),by rw [rlv.length];exact qaV _⟩,?_⟩
  have q3:P (.lst done) ι2.show H2:=by
   have:Fin K E ι H ((pure (D.lst (done++[])):M D) h2) P:=q2
   rw [List.append_nil] at this
   exact this _ _ s2 hr2.show
  rw [<- hP] at q3
  refine q3 (.ref p) ?_
  simp only [Rel]
  refine ⟨p,vs,rfl,⟨e2,fun z=> ?_⟩,rl2.pass zdP⟩
  rcases z with z | z
  ·exact (hr2.hidt p (by rw [hx2];exact qau)).2 z
  ·exact hpx (by have z:p∈ι2.x.tail:=z;rw [hx2] at z;exact z)
noncomputable def zfs (f:FE) (g:D->Sd->M Sd) (tc:Sd->M Bool) (te:Sd->M D) (src:List (Option Nat)):Sd->M D:=fun sd=>do
 let d<-f sd
 match d with
 | .cel n=>do
  let ds<-zag n
  fits ds.length
  let ys<-zbz n ds (zaH g tc te (zae src sd)) ds
  pure (D.lst ys)
 | _=>M.bad
theorem zkK {K:W.Frag} {f:FE} {g:D->Sd->M Sd} {tc:Sd->M Bool} {te:Sd->M D} (hk:zat g src) (σ:L2.St) (H:Hp) (Q:VK) (q:zeR K E (zfs f g tc te src) σ H Q):
  zjS (zrY K (zeR K E f)) (znv K E g) (zeg K E tc) (zeR K E te) src σ H Q:=by
 obtain ⟨ι,h,sd,L,hh,q⟩:=q
 refine ⟨ι,h,sd,L,hh,Fin.bind q fun d h1 ι1 H1 e1 s1 hr1 q1 v rv=> ?_⟩
 cases d with
 | cel n=>
  simp only [Rel] at rv
  obtain ⟨a,rfl,hn⟩:=rv
  have q1:Fin K E ι1 H1 ((do let ds<-zag n;fits ds.length;let ys<-zbz n ds (zaH g tc te (zae src sd)) ds;pure (D.lst ys):M D) h1) _:=q1
  have key: ∃ ds,h1[n]? = some (.lst ds)/\Fin K E ι1 H1 ((do fits ds.length;let ys<-zbz n ds (zaH g tc te (zae src sd)) ds;pure (D.lst ys):M D) h1) (fun d ι' H'=> ∀ v,Rel K ι' H' d v->Q v H'):=by
   cases hc:h1[n]? with
   | none=>
    have e:zag n h1= .bad:=by unfold zag;rw [hc]
    have:Fin K E ι1 H1 (M.bind (zag n) _ h1) _:=q1
    unfold M.bind at this
    rw [e] at this
    exact qa0 this
   | some c=>
    cases c with
    | lst ds=>
     have e:zag n h1= .ok ds h1:=by unfold zag;rw [hc]
     have:Fin K E ι1 H1 (M.bind (zag n) _ h1) _:=q1
     unfold M.bind at this
     rw [e] at this
     exact ⟨ds,rfl,this⟩
    | _=>
     have e:zag n h1= .bad:=by unfold zag;rw [hc]
     have:Fin K E ι1 H1 (M.bind (zag n) _ h1) _:=q1
     unfold M.bind at this
     rw [e] at this
     exact qa0 this
  obtain ⟨ds,hc,q2⟩:=key
  rcases hn with hn | hn
  ·obtain ⟨o,e1,e2⟩:=hr1.at_ n a _ hn hc
   obtain ⟨vs,rfl,rl⟩:=e2
   obtain ⟨z,q3⟩:=Fin.fits q2
   exact ⟨a,rfl,.inl ⟨⟨vs,.inl (.inl e1)⟩,fun p hp=>zr7 hk (L.step s1) hr1 hn z q3 hp⟩⟩
  ·have:=hr1.dead n hn
   rw [hc] at this
   cases this
 | _=>exact qa0 q1
theorem znt {f:FE} {g:D->Sd->M Sd} {tc:Sd->M Bool} {te:Sd->M D} (B:BOk X scope N src) (hk:zat g src) (hi:SE X E iter f)
  (hg: ∀ s H fp,SG (cxB X scope N s H fp) E tg g) (ht: ∀ s H fp,SCs (cxB X scope N s H fp) E ifs tc) (he: ∀ s H fp,SE (cxB X scope N s H fp) E elt te)
  (hs: ∀ x,foldedSetIterable iter X.env x=pure x:=by intro _;rfl):SE X E (.ListComp elt [⟨tg,iter,ifs,0⟩] scope pos) (zfs f g tc te src):=
 PE.imp (zgv B (zlI hi) hg ht he hs) (zkK hk)
end
end L3
namespace L3
open PySem PySem.Spec PyProof.Rows L2 LT
def Gro (h h':Hh):Prop:= ∃ t,h'=h++t
theorem Gro.refl {h:Hh}:Gro h h:=⟨[],by simp⟩
theorem Gro.trans {h h1 h2:Hh} (a:Gro h h1) (b:Gro h1 h2):Gro h h2:=by
 obtain ⟨t,rfl⟩:=a
 obtain ⟨u,rfl⟩:=b
 exact ⟨t++u,by simp⟩
theorem Gro.get {h h':Hh} {n:Nat} {c:C} (g:Gro h h') (e:h[n]? = some c):h'[n]? = some c:=by
 obtain ⟨t,rfl⟩:=g
 rw [qad (qac.mp e).1]
 exact e
theorem Gro.ext {b:Nat} {h h':Hh} (q:Bx b h) (g:Gro h h'):Ext b h h':=by
 obtain ⟨z,e⟩:=q
 exact ⟨⟨z,g.get e⟩,fun n c _ e=>g.get e⟩
def Ev {α:Type} (m:M α) (a:α):Prop:= ∀ h, ∃ h',m h= .ok a h'/\Gro h h'
section
variable {α β:Type} {m:M α} {a:α} {f:α->M β} {b:β} {h:Hh} {P:α->Hh->Prop}
theorem Ev.pure:Ev (Pure.pure a:M α) a:=fun h=>⟨h,rfl,.refl⟩
theorem Ev.of (e:m=Pure.pure a):Ev m a:=e▸ .pure
theorem Ev.bind (x:Ev m a) (y:Ev (f a) b):Ev (m>>=f) b:=fun h=>by
 obtain ⟨h1,e1,g1⟩:=x h
 obtain ⟨h2,e2,g2⟩:=y h1
 refine ⟨h2,?_,g1.trans g2⟩
 show M.bind m f h=_
 unfold M.bind
 rw [e1]
 exact e2
theorem Ev.wp (x:Ev m a) (k: ∀ h',Gro h h'->P a h'):wp m h P:=by
 obtain ⟨h1,e1,g1⟩:=x h
 exact ⟨a,h1,e1,k h1 g1⟩
theorem Ev.of_wp (x: ∀ h,L3.wp m h fun r h'=>r=a/\Gro h h'):Ev m a:=fun h=>by
 obtain ⟨r,h1,e1,rfl,g⟩:=x h
 exact ⟨h1,e1,g⟩
theorem Ev.noX (x:Ev m a):Ev (L3.noX m) a:=fun h=>by
 obtain ⟨h1,e1,g1⟩:=x h
 refine ⟨h1,?_,g1⟩
 unfold L3.noX
 rw [e1]
end
@[simp] theorem zk3 {α:Type} {a:α}:noX (pure a:M α)=pure a:=rfl
noncomputable def zfS {α:Type} (c:String):M α:=fun h=> .exc c h
@[simp] theorem zh3 {α β:Type} {c:String} {f:α->M β}:((zfS c:M α)>>=f)=zfS c:=rfl
@[simp] theorem zkq {c:String} {sd:Sd}:zha c sd=zfS c:=rfl
theorem zpL {n:Nat} {Fs:List (List D->M D)} {fi:FE} {fs:FA} {sd:Sd}:zqu n Fs fi fs sd=(do let i<-fi sd;let F<-zpM Fs i;let ds<-fs sd;zaF n F ds):=rfl
noncomputable def tI (xs:List Int):D:= .tup (xs.map D.int)
noncomputable def zbY (o:List Int×Int):D:= .tup [tI o.1,.int o.2]
noncomputable def zce (m:Int) (os:List (List Int×Int)):D:= .tup [.int m,.tup (os.map zbY)]
structure Stk (m:Int) (os:List (List Int×Int)):Prop where
 m0:1<=m
 m1:m<=10
 len:os.length<=12
 up: ∀ o∈os,o.1.Pairwise (· < ·)
 bd: ∀ o∈os, ∀ x∈o.1,0<=x/\x<m
 ne: ∀ o∈os,o.1≠[]
 pos: ∀ o∈os,0<o.2
theorem Stk.olen {m:Int} {os:List (List Int×Int)} (s:Stk m os): ∀ o∈os,o.1.length<=10:=fun o ho=>by
 have h:=zdJ (m:=m) (ts:=o.1.map D.int) (l:=0) (zbh.mpr ⟨s.up o ho,fun x hx=>s.bd o ho x hx⟩) (by have:=s.m0;omega)
 rw [qaH] at h
 have:=s.m1
 omega
theorem zi7 {fo fe:FE} {sd:Sd}:zgQ fo fe sd=(do let x<-fo sd;zdB x;let y<-fe sd;zcG x y):=rfl
theorem znM {n:Nat}:zdB (.cel n)=(do let _<-zag n;pure ()):=rfl
theorem zkm {n:Nat} {zs:List D}:zcG (.cel n) (.tup zs)=(do let ds<-zag n;fits (ds.length+zs.length);zbc n (ds++zs);pure .non):=rfl
theorem zit {xs:List Int} {m:Int} (m0:0<=m) (h:xs.Pairwise (· < ·)) (b: ∀ x∈xs,0<=x/\x<m):(xs.length:Int)<=m:=by
 have:=zdJ (m:=m) (ts:=xs.map D.int) (l:=0) (zbh.mpr ⟨h,b⟩) m0
 rw [qaH] at this
 omega
theorem zkj {xs:List Int} {m:Int} (m0:0<=m) (b: ∀ x∈xs,0<=x/\x<m):((zdI xs).length:Int)<=m:=zit m0 (zdm xs) fun x hx=>b x (zb4.mp hx)
theorem zgD {xs:List Int} {m:Int} (m0:0<=m) (m1:m<=60) (b: ∀ x∈xs,0<=x/\x<m):(xs.foldl step_dedup []).length<64:=by
 have h:=zkj m0 b
 unfold zdI at h
 rw [(zap _).length_eq] at h
 omega
theorem zfp {n:Nat} {h:Hh} {xs:List Int} {P:D->Hh->Prop} (e:h[n]? = some (.lst (xs.map D.int))) (h1:(xs.foldl step_dedup []).length<64) (h2:xs.length<4000) (k:P (.lst ((zdI xs).map D.int)) h):wp (zbo (.cel n)) h P:=by
 unfold zbo
 show wp (zag n>>=_) h P
 rw [zah,zcs e]
 show wp (do let ns<-ofO (zbI (xs.map D.int));if (ns.foldl step_dedup []).length<64/\ns.length<4000 then pure (.lst ((zdI ns).map D.int)) else M.bad:M D) h P
 rw [zba]
 show wp (if (xs.foldl step_dedup []).length<64/\xs.length<4000 then (pure (.lst ((zdI xs).map D.int)):M D) else M.bad) h P
 rw [qa4 ⟨h1,h2⟩,zaj]
 exact k
theorem zoV: ∀ {xs ys:List Int},xs.Pairwise (· < ·)->ys.Pairwise (· < ·)->(∀ k,k∈xs↔k∈ys)->xs=ys:=by
 intro xs ys hx hy hm
 have nx:xs.Nodup:=hx.imp fun z=>by omega
 have ny:ys.Nodup:=hy.imp fun z=>by omega
 have p:List.Perm xs ys:=(List.perm_ext_iff_of_nodup nx ny).mpr hm
 exact (zdN p (hx.imp fun z=>by omega)).trans (zdN (List.Perm.refl ys) (hy.imp fun z=>by omega)).symm
theorem zqP (xs:List Int):pd (tI xs)=some (.tuple (xs.map PyData.int)):=by unfold tI pd;rw [zb7];rfl
theorem zn6 (xs:List Int):zpP [.lst (xs.map D.int)]=pure (.int xs.sum):=by
 show (do let bs<-ofO (zbI (xs.map D.int));pure (.int bs.sum):M D)=_
 rw [zba]
 rfl
def gk (d:D):Prop:=kn d=true/\ ∀ ds,d= .tup ds->ds.length<64/\ ∀ x∈ds,kn x=true
theorem znx {os:List (List Int×Int)} {i:Int} (h0:0<=i) (h1:i<os.length):atI (os.map zbY) i=some (zbY (os.getD i.toNat ([],0))):=by
 have hl:i.toNat<os.length:=by omega
 have:=zdR (xs:=os.map zbY) (j:=i.toNat) (v:=zbY (os.getD i.toNat ([],0))) (by simp [hl,List.getD])
 rw [<- this]
 congr 1
 omega
noncomputable def zgH (os:List (List Int×Int)) (ls:List Int):List (List Int×Int):=ls.map fun i=>os.getD i.toNat ([],0)
theorem zgY (k:Int) (xs:List Int):zfE (.int k) (.lst (xs.map D.int))=pure (.bl (!xs.any (· == k))):=by
 show zkf true (.int k) (.lst (xs.map D.int))=_
 unfold zkf
 simp only [pd]
 rw [zb7]
 have c:ziH (.int k) (xs.map PyData.int)=true:=by
  unfold ziH
  simp [PyData.canLay0,zaS,PyData.depth,zbr]
 simp only [c,if_true,zdL]
theorem zgt {xs:List Int} (h:xs.length<64):zdY [.lst (xs.map D.int)]=pure (.lst ((zbi xs).map D.int)):=by
 show (do let ns<-ofO (zbI (xs.map D.int));if ns.length<64 then pure (.lst ((zbi ns).map D.int)) else M.bad:M D)=_
 rw [zba]
 show (if xs.length<64 then (pure (.lst ((zbi xs).map D.int)):M D) else M.bad)=_
 rw [qa4 h]
theorem zew {xs:List Int} (h:xs.Nodup):(zbi xs).Pairwise (· < ·):=by
 have h1:=zcy xs
 have h2:(zbi xs).Nodup:=(zap xs).nodup_iff.mpr h
 exact (List.pairwise_and_iff.mpr ⟨h1,h2⟩).imp fun z=>by have:=z.1;have:=z.2;omega
theorem zgA {xs ys:List Int} (h:xs.Nodup) (hm: ∀ k,k∈xs↔k∈ys):zbi xs=zdI ys:=zoV (zew h) (zdm ys) fun k=>by rw [(zap xs).mem_iff,zb4,hm]
theorem zd6 {xs:List Int} {m:Int} (m0:0<=m) (h:xs.Nodup) (b: ∀ x∈xs,0<=x/\x<m):(xs.length:Int)<=m:=by
 rw [<- (zap xs).length_eq]
 exact zit m0 (zew h) fun x hx=>b x ((zap xs).mem_iff.mp hx)
theorem zbS {p:Int->Bool} {k:D->Option D} (e: ∀ i:Int,k (.int i)=if p i=true then some (.int i) else none): ∀ xs:List Int,(xs.map D.int).filterMap k=(xs.filter p).map D.int
 | []=>rfl
 | x::r=>by
  rw [qaM,qat,e,List.filter_cons,zbS e r]
  cases p x<;>simp
theorem zrz {i j:Int}:zmv [.int i,.int j]=pure (.int (if j<i then j else i)):=rfl
theorem zrj {i j:Int}:znh [.int i,.int j]=pure (.int (if j>i then j else i)):=rfl
theorem zk9 (xs:List Int):dNe (tI xs) (.tup [])=pure (.bl (!xs.isEmpty)):=by
 show zl0 true _ _=_
 unfold zl0
 rw [zqP xs,show pd (.tup [])=some (.tuple []) from rfl]
 have c:zeC (.tuple (xs.map PyData.int)) (.tuple [])=true:=by
  unfold zeC
  simp [PyData.canLay0,PyData.canLayAll0,zaS,PyData.depth,PyData.depthAll,zbr]
 simp only [c,if_true,PyData.eqv]
 cases xs<;>rfl
theorem zcN (n:Nat):((List.range n).map fun (k:Nat)=>(k:Int)).Pairwise (· < ·):=by
 rw [List.pairwise_map]
 exact List.pairwise_lt_range.imp fun z=>by omega
theorem zc3 {n:Nat}: ∀ x∈(List.range n).map fun (k:Nat)=>(k:Int),0<=x/\x<n:=fun x hx=>by
 obtain ⟨k,hk,rfl⟩:=qaU.mp hx
 have:=List.mem_range.mp hk
 omega
def EvX {α:Type} (m:M α) (c:String):Prop:= ∀ h, ∃ h',m h= .exc c h'/\Gro h h'
section
variable {α β:Type} {m:M α} {a:α} {f:α->M β} {c:String}
theorem EvX.raise:EvX (zfS c:M α) c:=fun h=>⟨h,rfl,.refl⟩
theorem EvX.of (e:m=zfS c):EvX m c:=e▸ .raise
theorem EvX.left (x:EvX m c):EvX (m>>=f) c:=fun h=>by
 obtain ⟨h1,e1,g1⟩:=x h
 refine ⟨h1,?_,g1⟩
 show M.bind m f h=_
 unfold M.bind
 rw [e1]
theorem Ev.bindX (x:Ev m a) (y:EvX (f a) c):EvX (m>>=f) c:=fun h=>by
 obtain ⟨h1,e1,g1⟩:=x h
 obtain ⟨h2,e2,g2⟩:=y h1
 refine ⟨h2,?_,g1.trans g2⟩
 show M.bind m f h=_
 unfold M.bind
 rw [e1]
 exact e2
end
theorem zly {names:List String} {gb:FS} {F:List D->M D} {sd:Sd} {c:String} {d:D} (x:EvX (gb sd) c) (hc:names.contains c=true) (ek:F [.exn c]=pure d):Ev (zgP names gb F sd) (.rt d):=fun h=>by
 obtain ⟨h1,e1,g1⟩:=x h
 refine ⟨h1,?_,g1⟩
 unfold zgP
 rw [e1]
 show (if names.contains c=true then (do let d<-noX (F [.exn c]);pure (.rt d):M Out) h1 else .bad)=_
 rw [qa4 hc,ek]
 rfl
theorem zqb {g:FS} {sd:Sd}:zsh g sd=noX (g sd):=rfl
theorem zpm {g:FE} {sd:Sd}:zsi g sd=noX (g sd):=rfl
theorem zkU (xs:List D) {k:Int} (h:0<=k):L3.zh8 xs none (some k)=xs.take k.toNat:=by
 have e:=HT.zjh xs.length xs.length k.toNat
 rw [Int.toNat_of_nonneg h] at e
 unfold L3.zh8
 have e0:HT.sIx xs.length 0 none=0:=rfl
 rw [e0,e]
 simp
theorem zk8 (xs:List D) {k:Int} (h:0<=k):L3.zh8 xs (some k) none=xs.drop k.toNat:=by
 have e:=HT.zjh xs.length 0 k.toNat
 rw [Int.toNat_of_nonneg h] at e
 unfold L3.zh8
 have e0:HT.sIx xs.length xs.length none=xs.length:=rfl
 rw [e0,e]
 by_cases hk:k.toNat<=xs.length
 ·rw [Nat.min_eq_left hk,List.take_of_length_le (by rw [List.length_drop];omega)]
 ·rw [Nat.min_eq_right (by omega),List.drop_eq_nil_of_le (show xs.length<=k.toNat by omega)]
  simp
theorem zn1 {xs:List Int} {m:Int} (m0:0<=m) (h:xs.Pairwise (· < ·)) (b: ∀ x∈xs,0<=x/\x<m):(xs==(List.range m.toNat).map fun (k:Nat)=>(k:Int))=((xs.length:Int)==m):=by
 rw [Bool.eq_iff_iff,beq_iff_eq,beq_iff_eq]
 constructor
 ·intro e
  rw [e]
  simp
  omega
 ·intro e
  refine zoV h (zcN _) fun k=>⟨fun hk=> ?_,fun hk=> ?_⟩
  ·obtain ⟨h1,h2⟩:=b k hk
   exact qaU.mpr ⟨k.toNat,List.mem_range.mpr (by omega),by omega⟩
  ·have hb:=zc3 k hk
   by_cases c:k∈xs
   ·exact c
   ·exfalso
    have:=zd6 (xs:=k::xs) m0 (List.nodup_cons.mpr ⟨c,h.imp fun z=>by omega⟩) fun x hx=>by
     rcases qaP.mp hx with rfl | hx
     ·omega
     ·exact b x hx
    rw [qaE] at this
    omega
end L3
namespace K03
open PySem PySem.Spec PyProof.Rows L2 L3
noncomputable def zbK:List String:=["NoStock","NoOffer","NoThing","NoCover","NoPaper","NoNumber","NotFull","NotInRow","NoText","NoRow","TooMany"]
noncomputable def G_19:FS:=zaC (sIf (zfd dLt (zai 1) (zaX zgp (zac (zai 0) zav))) (zdx (cOp dIx (zai 0) (zai 1))) zke) (zdx (cOp zdu (cOp zik (cK (.int 6151)) (zai 1)) (cK (.int 29))))
noncomputable def F_19:List D->M D:=zeo 2 G_19
theorem d_19 (x0 x1:D):F_19 [x0,x1]=(do let o<-G_19 [some x0,some x1];zen o):=rfl
noncomputable def zcp:FS:=zaC (zcA 4 (cOp znY (cOp zdu (cOp zdu (cOp zdu (cOp zik (zai 4) (cK (.int 48271))) (cOp zik (cOp zik (cK (.int 7)) (zai 5)) (zai 5))) (cOp zik (cK (.int 11)) (zai 1))) (cK (.int 1))) (cK (.int 2147483647)))) (zcA 3 (cOp zdu (cOp zik (zai 3) (cK (.int 2147483647))) (zai 4)))
noncomputable def G_20:FS:=zaC (zcA 2 (zaX (zaF 2 F_19) (zac (zai 0) (zac (zai 1) zav)))) (zaC (sIf (zfd dEq (cOp znY (zai 2) (cK (.int 2))) (cK (.int 0))) (zdx (zhT (zac (cOp zk6 (zai 2) (cK (.int 2))) zav))) zke) (zaC (zcA 3 (cK (.int 0))) (zaC (zcA 4 (cOp znY (zai 2) (cK (.int 2147483647)))) (zaC (zlx (zgS (zac (cK (.int 24)) zav)) (zaU 5) zcp) (zdx (zhT (zac (zai 3) zav)))))))
noncomputable def F_20:List D->M D:=zeo 6 G_20
theorem d_20 (x0 x1:D):F_20 [x0,x1]=(do let o<-G_20 [some x0,some x1,none,none,none,none];zen o):=rfl
noncomputable def G_21:FS:=zaC (zcA 2 (cOp znY (cOp dIx (zai 0) (cK (.int 0))) (zai 1))) (zaC (zoa (cOp zk6 (cOp dIx (zai 0) (cK (.int 0))) (zai 1)) (zku (zai 0) (cK (.int 0)))) (zdx (zai 2)))
noncomputable def F_21:List D->M D:=zeo 3 G_21
theorem d_21 (x0 x1:D):F_21 [x0,x1]=(do let o<-G_21 [some x0,some x1,none];zen o):=rfl
noncomputable def zbC:FE:=zai 0
noncomputable def zbB:FT:=zfd dEq (cOp zrn (cOp zre (zai 1) (zai 0)) (cK (.int 1))) (cK (.int 1))
noncomputable def zbx:FE:=cOp znY (cOp zdu (zai 1) (cOp zik (zai 2) (zai 0))) (zai 3)
noncomputable def G_24:FS:=zaC (zcA 2 (zaX (zaF 2 F_21) (zac (zai 0) (zac (cK (.int 3)) zav)))) (zaC (sIf (zfd dEq (zai 2) (cK (.int 0))) (zaC (zcA 3 (cOp zdu (cK (.int 1)) (zaX (zaF 2 F_21) (zac (zai 0) (zac (cOp zox (cOp zpW (cK (.int 1)) (zai 1)) (cK (.int 1))) zav))))) (zdx (zaX zcm (zac (zaG (zgS (zac (zai 1) zav)) (zaU 0) zbB zbC [none,some 3]) zav)))) zke) (zaC (zoa (zgq (zac (zaX (zaF 2 F_21) (zac (zai 0) (zac (zai 1) zav))) (zac (cOp dIx (zhi (zac (cK (.int 1)) (zac (cOp zdu (cK (.int 1)) (zaX (zaF 2 F_21) (zac (zai 0) (zac (cK (.int 3)) zav)))) zav))) (cOp zox (zai 2) (cK (.int 1)))) zav))) (zcV 2 (zaP (zaU 4) (zaP (zaU 5) zc2)))) (zdx (zaX zcm (zac (cUn zbo (zaG (zgS (zac (cOp zdu (cK (.int 1)) (zaX (zaF 2 F_21) (zac (zai 0) (zac (cK (.int 4)) zav)))) zav)) (zaU 0) (fun _=>pure true) zbx [none,some 4,some 5,some 1])) zav)))))
noncomputable def F_24:List D->M D:=zeo 6 G_24
theorem d_24 (x0 x1:D):F_24 [x0,x1]=(do let o<-G_24 [some x0,some x1,none,none,none,none];zen o):=rfl
noncomputable def zcb:FE:=zhT (zac (zaX (zaF 2 F_24) (zac (zai 1) (zac (zai 2) zav))) (zac (cOp zdu (cK (.int 1)) (zaX (zaF 2 F_21) (zac (zai 1) (zac (zai 3) zav)))) zav))
noncomputable def zcP:FE:=zai 0
noncomputable def zc0:FT:=zfd dIn (zai 1) (cOp dIx (zai 0) (cK (.int 0)))
noncomputable def za5:FS:=sIf (zfd zlU (zaG (iSq (zai 5)) (zaU 0) zc0 zcP [none,some 6]) (zhi zav)) (zaC (zcA 7 (cOp dIx (zai 5) (zaX (zaF 2 F_21) (zac (zai 0) (zac (zaX zgp (zac (zai 5) zav)) zav))))) (zoa (zaX zcm (zac (zaX zdY (zac (cOp zdu (cOp dIx (zai 7) (cK (.int 0))) (zgq (zac (zai 6) zav))) zav)) zav)) (zku (zai 7) (cK (.int 0))))) zke
noncomputable def zc6:FE:=zgq (zac (cOp dIx (zai 0) (cK (.int 0))) (zac (cOp dIx (zai 0) (cK (.int 1))) zav))
noncomputable def G_25:FS:=zaC (zcA 3 (cOp zdu (cK (.int 1)) (zaX (zaF 2 F_21) (zac (zai 0) (zac (zai 1) zav))))) (zaC (zcA 4 (cOp dIx (zhi (zac (cK (.int 3)) (zac (cK (.int 9)) (zac (cK (.int 50)) (zac (cOp zqr (cK (.int 10)) (cK (.int 12))) zav))))) (zaX (zaF 2 F_21) (zac (zai 0) (zac (cK (.int 4)) zav))))) (zaC (zcA 5 (zaG (zgS (zac (cOp zdu (cK (.int 1)) (zaX (zaF 2 F_21) (zac (zai 0) (zac (zai 2) zav)))) zav)) (zaU 0) (fun _=>pure true) zcb [none,some 0,some 3,some 4])) (zaC (zlx (zgS (zac (zai 3) zav)) (zaU 6) za5) (zdx (zgq (zac (zai 3) (zac (zaX zcm (zac (zaG (iSq (zai 5)) (zaU 0) (fun _=>pure true) zc6 [none]) zav)) zav)))))))
noncomputable def F_25:List D->M D:=zeo 8 G_25
theorem d_25 (x0 x1 x2:D):F_25 [x0,x1,x2]=(do let o<-G_25 [some x0,some x1,some x2,none,none,none,none,none];zen o):=rfl
noncomputable def zbE:FE:=cOp zpW (cK (.int 1)) (zai 0)
noncomputable def zbD:FE:=zaX zpP (zac (zaG (iSq (zai 0)) (zaU 0) (fun _=>pure true) zbE [none]) zav)
noncomputable def zbw:FE:=zgq (zac (cOp zdu (zai 0) (zgq (zac (zai 2) zav))) (zac (cOp dOr (zai 1) (cOp dIx (zai 3) (zai 2))) zav))
noncomputable def za4:FS:=zcA 3 (cOp zdu (zai 3) (zaG (iSq (zai 3)) (zcV 2 (zaP (zaU 0) (zaP (zaU 1) zc2))) (fun _=>pure true) zbw [none,none,some 4,some 2]))
noncomputable def zbv:FE:=zai 0
noncomputable def zbA:FT:=zfd dEq (zai 1) (cOp zox (cOp zpW (cK (.int 1)) (cOp dIx (zai 2) (cK (.int 0)))) (cK (.int 1)))
noncomputable def G_28:FS:=zaC (zcA 1 (zhi zav)) (zaC (zcA 2 (zaG (iSq (cOp dIx (zai 0) (cK (.int 1)))) (zcV 2 (zaP (zaU 0) (zaP (zaU 1) zc2))) (fun _=>pure true) zbD [none,none])) (zaC (zcA 3 (zhi (zac (zgq (zac (zgq zav) (zac (cK (.int 0)) zav))) zav))) (zaC (zlx (zgS (zac (zaX zgp (zac (zai 2) zav)) zav)) (zaU 4) za4) (zdx (zaX zhK (zac (zaG (iSq (zai 3)) (zcV 2 (zaP (zaU 0) (zaP (zaU 1) zc2))) zbA zbv [none,none,some 0]) zav))))))
noncomputable def F_28:List D->M D:=zeo 5 G_28
theorem d_28 (x0:D):F_28 [x0]=(do let o<-G_28 [some x0,none,none,none,none];zen o):=rfl
noncomputable def zfj:FE:=zaX zns (zac (zai 0) zav)
noncomputable def G_23:FS:=zaC (zcA 1 (zhi (zac (cUn (zil zbK "NoStock") (zai 0)) (zac (cUn (zil zbK "NoOffer") (zai 0)) (zac (cUn (zil zbK "NoThing") (zai 0)) (zac (cUn (zil zbK "NoCover") (zai 0)) zav)))))) (zaC (zcA 1 (cOp zdu (zai 1) (zhi (zac (cUn (zil zbK "NoPaper") (zai 0)) (zac (cUn (zil zbK "NoNumber") (zai 0)) (zac (cUn (zil zbK "NotFull") (zai 0)) (zac (cUn (zil zbK "NotInRow") (zai 0)) zav))))))) (zaC (zcA 1 (cOp zdu (zai 1) (zhi (zac (cUn (zil zbK "NoText") (zai 0)) (zac (cUn (zil zbK "NoRow") (zai 0)) (zac (cUn (zil zbK "TooMany") (zai 0)) zav)))))) (zaC (sIf (tOr (zlJ (zmP (cUn (zpT zbK) (zai 0)))) (zfd dNe (zaX zpP (zac (zaG (iSq (zai 1)) (zaU 0) (fun _=>pure true) zfj [none]) zav)) (cK (.int 1)))) (zdx (cK (.str "! none of the classes"))) zke) (zaC (zcA 2 (zhi (zac (cK (.str "stock")) (zac (cK (.str "offer")) (zac (cK (.str "thing")) (zac (cK (.str "cover")) (zac (cK (.str "paper")) (zac (cK (.str "number")) (zac (cK (.str "full")) (zac (cK (.str "in row")) (zac (cK (.str "text")) (zac (cK (.str "row")) (zac (cK (.str "many")) zav))))))))))))) (zdx (cOp zdu (cK (.str "! ")) (cOp dIx (zai 2) (cUn zpz (zai 1)))))))))
noncomputable def F_23:List D->M D:=zeo 3 G_23
theorem d_23 (x0:D):F_23 [x0]=(do let o<-G_23 [some x0,none,none];zen o):=rfl
noncomputable def zaM:FS:=zjl (zgQ (zai 1) (cOp dIx (zai 2) (cK (.int 0))))
noncomputable def G_16:FS:=zaC (zcA 1 (zhT zav)) (zaC (zlx (iSq (zai 0)) (zaU 2) zaM) (zdx (zaX zcm (zac (cUn zbo (zai 1)) zav))))
noncomputable def F_16:List D->M D:=zeo 3 G_16
theorem d_16 (x0:D):F_16 [x0]=(do let o<-G_16 [some x0,none,none];zen o):=rfl
noncomputable def G_17:FS:=zdx (cOp dEq (zaX zgp (zac (zaX (zaF 1 F_16) (zac (zai 1) zav)) zav)) (cOp dIx (zai 0) (cK (.int 0))))
noncomputable def F_17:List D->M D:=zeo 2 G_17
theorem d_17 (x0 x1:D):F_17 [x0,x1]=(do let o<-G_17 [some x0,some x1];zen o):=rfl
noncomputable def G_12:FS:=zdx (zaX (zaF 2 F_17) (zac (zai 0) (zac (cOp dIx (zai 0) (cK (.int 1))) zav)))
noncomputable def F_12:List D->M D:=zeo 1 G_12
theorem d_12 (x0:D):F_12 [x0]=(do let o<-G_12 [some x0];zen o):=rfl
noncomputable def G_15:FS:=sIf (zlJ (zmP (zaX (zaF 1 fun ds=>noX (F_12 ds)) (zac (zai 0) zav)))) (zha "NotFull") zke
noncomputable def F_15:List D->M D:=zeo 1 G_15
theorem d_15 (x0:D):F_15 [x0]=(do let o<-G_15 [some x0];zen o):=rfl
noncomputable def G_18:FS:=zdx (zgq (zac (cOp dIx (zai 0) (cK (.int 0))) (zac (cOp zdu (cOp zdu (cSl (cOp dIx (zai 0) (cK (.int 1))) zlp (zlr (zai 1))) (zai 2)) (cSl (cOp dIx (zai 0) (cK (.int 1))) (zlr (cOp zdu (zai 1) (cK (.int 1)))) zlp)) zav)))
noncomputable def F_18:List D->M D:=zeo 3 G_18
theorem d_18 (x0 x1 x2:D):F_18 [x0,x1,x2]=(do let o<-G_18 [some x0,some x1,some x2];zen o):=rfl
noncomputable def G_14:FS:=zdx (zqp (zaX (zaF 1 F_12) (zac (zaX (zaF 3 F_18) (zac (zai 0) (zac (zai 1) (zac (zgq zav) zav)))) zav)))
noncomputable def F_14:List D->M D:=zeo 2 G_14
theorem d_14 (x0 x1:D):F_14 [x0,x1]=(do let o<-G_14 [some x0,some x1];zen o):=rfl
noncomputable def zey:FE:=zai 0
noncomputable def zeJ:FT:=zmP (zaX (zaF 2 fun ds=>noX (F_14 ds)) (zac (zai 1) (zac (zai 0) zav)))
noncomputable def G_13:FS:=zaC (zjl (zaX (zaF 1 F_15) (zac (zai 0) zav))) (zdx (zfm (zgS (zac (zaX zgp (zac (cOp dIx (zai 0) (cK (.int 1))) zav)) zav)) (zaU 0) zeJ zey [none,some 0]))
noncomputable def F_13:List D->M D:=zeo 1 G_13
theorem d_13 (x0:D):F_13 [x0]=(do let o<-G_13 [some x0];zen o):=rfl
noncomputable def G_29:FS:=zgP zbK (zdx (zaX (zaF 1 F_13) (zac (zai 0) zav))) F_23
noncomputable def F_29:List D->M D:=zeo 2 G_29
theorem d_29 (x0:D):F_29 [x0]=(do let o<-G_29 [some x0,none];zen o):=rfl
noncomputable def G_22:FS:=zdx (zro (cUn (zkb "int") (zai 0)) (zqp (cUn (zkb "bool") (zai 0))))
noncomputable def F_22:List D->M D:=zeo 1 G_22
theorem d_22 (x0:D):F_22 [x0]=(do let o<-G_22 [some x0];zen o):=rfl
noncomputable def zbQ:FE:=zai 0
noncomputable def zbP:FT:=zfd dNe (zai 0) (zai 1)
noncomputable def zbU:FE:=zgq (zac (zaX zcm (zac (zaG (iSq (zai 0)) (zaU 0) zbP zbQ [none,some 2]) zav)) (zac (zai 1) zav))
noncomputable def zbT:FE:=zai 0
noncomputable def zbM:FT:=zfd dNe (cOp dIx (zai 0) (cK (.int 0))) (zgq zav)
noncomputable def G_26:FS:=zaC (zoa (zai 1) (zcV 2 (zaP (zaU 2) (zaP (zaU 3) zc2)))) (zaC (zcA 4 (zaX (zaF 2 F_21) (zac (zai 0) (zac (zai 2) zav)))) (zaC (zcA 5 (zaG (iSq (zai 3)) (zcV 2 (zaP (zaU 0) (zaP (zaU 1) zc2))) (fun _=>pure true) zbU [none,none,some 4])) (zdx (zgq (zac (zai 2) (zac (zaX zcm (zac (zaG (iSq (zai 5)) (zaU 0) zbM zbT [none]) zav)) zav))))))
noncomputable def F_26:List D->M D:=zeo 6 G_26
theorem d_26 (x0 x1:D):F_26 [x0,x1]=(do let o<-G_26 [some x0,some x1,none,none,none,none];zen o):=rfl
noncomputable def zcu:FE:=zai 0
noncomputable def zcr:FT:=zfd zfE (zai 0) (zai 1)
noncomputable def zcq:FS:=zcA 2 (cOp zdu (zai 2) (zaG (iSq (cOp dIx (cOp dIx (cOp dIx (zai 0) (cK (.int 1))) (zai 3)) (cK (.int 0)))) (zaU 0) zcr zcu [none,some 2]))
noncomputable def G_27:FS:=zaC (zcA 2 (zhi zav)) (zaC (zlx (iSq (zai 1)) (zaU 3) zcq) (zdx (zaX zcm (zac (zaX zdY (zac (zai 2) zav)) zav))))
noncomputable def F_27:List D->M D:=zeo 4 G_27
theorem d_27 (x0 x1:D):F_27 [x0,x1]=(do let o<-G_27 [some x0,some x1,none,none];zen o):=rfl
noncomputable def zgr:FE:=zai 0
noncomputable def zgx:FT:=zfd zfE (zai 1) (zai 0)
noncomputable def zgL:FE:=zai 0
noncomputable def zgI:FT:=zfd zlU (zaG (iSq (zai 1)) (zaU 0) zgx zgr [none,some 0]) (zhi zav)
noncomputable def ziS:FE:=zaX (zaF 1 F_22) (zac (zai 0) zav)
noncomputable def zgC:FS:=zaC (zcA 7 (zaX (zaF 1 F_29) (zac (zai 3) zav))) (zaC (sIf (tOr (zlJ (zmP (cUn (zkb "list") (zai 7)))) (tOr (zlJ (zmP (zaX zq1 (zac (zfs (zai 7) (zaU 0) (fun _=>pure true) ziS [none]) zav)))) (zfd zlG (zai 7) (zai 5)))) (zdx (cK (.bl false))) zke) (zjl (zgn (zai 7) (cK (.int 0)))))
noncomputable def zdT:FS:=zaC (zcA 2 (zaX (zaF 2 F_20) (zac (zai 0) (zac (zai 1) zav)))) (zaC (zcA 3 (zaX (zaF 3 F_25) (zac (zai 2) (zac (cK (.int 10)) (zac (cOp dIx (zhi (zac (cK (.int 12)) (zac (cK (.int 6)) zav))) (zaX (zaF 2 F_21) (zac (zai 2) (zac (cK (.int 2)) zav)))) zav))))) (zaC (zcA 4 (zaX (zaF 1 F_28) (zac (zai 3) zav))) (zaC (zcA 5 (zaG (zgS (zac (zaX zgp (zac (cOp dIx (zai 3) (cK (.int 1))) zav)) zav)) (zaU 0) zgI zgL [none,some 4])) (zaC (zlx (zgS (zac (cK (.int 2)) zav)) (zaU 6) zgC) (zaC (zcA 8 (zaX (zaF 2 F_26) (zac (zai 2) (zac (zai 3) zav)))) (sIf (zoH (zfd dLt (zaX zgp (zac (zaX (zaF 2 F_27) (zac (zai 8) (zac (cUn zfk (zaX zgp (zac (cOp dIx (zai 8) (cK (.int 1))) zav))) zav))) zav)) (cOp dIx (zai 8) (cK (.int 0)))) (zfd zlG (zaX (zaF 1 F_29) (zac (zai 8) zav)) (cK (.str "! full")))) (zdx (cK (.bl false))) zke))))))
noncomputable def G_30:FS:=zaC (zlx (zgS (zac (zaX znh (zac (cK (.int 1)) (zac (zaX zmv (zac (zaX zgp (zac (zai 0) zav)) (zac (cK (.int 3)) zav))) zav))) zav)) (zaU 1) zdT) (zdx (cK (.bl true)))
noncomputable def F_30:List D->M D:=zeo 9 G_30
theorem d_30 (x0:D):F_30 [x0]=(do let o<-G_30 [some x0,none,none,none,none,none,none,none,none];zen o):=rfl
end K03
set_option genInjectivity false
set_option genSizeOf false
set_option genSizeOfSpec false
namespace K03
open PySem PySem.Spec PyProof.Rows L2 L3
noncomputable def top (i:Nat):Stmt:=PySem.Challenge.pw_cheapcovers_k03_needed_offers.main.body.getD i (.Pass ⟨0,0,0,0⟩)
theorem zgB {A:Around} {k:Nat} (hr:zcD k A):A.units+60<cLine:=by have:=hr.units;omega
theorem zq4 {A:Around} {k:Nat} (hr:zcl k A):A.units+60<cLine:=by have:=hr.un;omega
theorem zpa {P:Program} {w:World} {K:W.Frag} {mg:Str->Option Value} {base:Heap} {N:List Str} {qual:Str} {scope:Scope} {f:Addr} {cd:Value} {A:Around} {outer:List Env} {s:Shared} {H:Hp} {E:XK}:zei (zgj CX0 P w K mg base N qual scope f cd A outer s H E).nox:=⟨rfl,rfl,rfl⟩
theorem zoB:bootBuiltins "all"=some (.builtin "all"):=by decide +kernel
theorem zmW:bootBuiltins "bool"=some (.type "bool"):=by decide +kernel
theorem zl4:bootBuiltins "int"=some (.type "int"):=by decide +kernel
theorem zc1:bootBuiltins "len"=some (.builtin "len"):=by decide +kernel
theorem zmD:bootBuiltins "list"=some (.type "list"):=by decide +kernel
theorem zpg:bootBuiltins "max"=some (.builtin "max"):=by decide +kernel
theorem zoF:bootBuiltins "min"=some (.builtin "min"):=by decide +kernel
theorem zea:bootBuiltins "sorted"=some (.builtin "sorted"):=by decide +kernel
theorem zl6:bootBuiltins "sum"=some (.builtin "sum"):=by decide +kernel
theorem zbL:bootBuiltins "tuple"=some (.type "tuple"):=by decide +kernel
noncomputable abbrev s_19:Stmt:=top 22
noncomputable abbrev s_20:Stmt:=top 23
noncomputable abbrev s_21:Stmt:=top 24
noncomputable abbrev s_24:Stmt:=top 27
noncomputable abbrev s_25:Stmt:=top 28
noncomputable abbrev s_28:Stmt:=top 31
noncomputable abbrev s_23:Stmt:=top 26
noncomputable abbrev s_16:Stmt:=top 18
noncomputable abbrev s_17:Stmt:=top 19
noncomputable abbrev s_12:Stmt:=top 14
noncomputable abbrev s_15:Stmt:=top 17
noncomputable abbrev s_18:Stmt:=top 20
noncomputable abbrev s_14:Stmt:=top 16
noncomputable abbrev s_13:Stmt:=top 15
noncomputable abbrev s_29:Stmt:=top 32
noncomputable abbrev s_22:Stmt:=top 25
noncomputable abbrev s_26:Stmt:=top 29
noncomputable abbrev s_27:Stmt:=top 30
noncomputable abbrev s_30:Stmt:=top 33
structure Ad where
 a_0:Addr
 a_1:Addr
 a_2:Addr
 a_3:Addr
 a_4:Addr
 a_5:Addr
 a_6:Addr
 a_7:Addr
 a_8:Addr
 a_9:Addr
 a_10:Addr
 a_11:Addr
 a_19:Addr
 d_19:FuncData
 a_20:Addr
 d_20:FuncData
 a_21:Addr
 d_21:FuncData
 a_24:Addr
 d_24:FuncData
 a_25:Addr
 d_25:FuncData
 a_28:Addr
 d_28:FuncData
 a_23:Addr
 d_23:FuncData
 a_16:Addr
 d_16:FuncData
 a_17:Addr
 d_17:FuncData
 a_12:Addr
 d_12:FuncData
 a_15:Addr
 d_15:FuncData
 a_18:Addr
 d_18:FuncData
 a_14:Addr
 d_14:FuncData
 a_13:Addr
 d_13:FuncData
 a_29:Addr
 d_29:FuncData
 a_22:Addr
 d_22:FuncData
 a_26:Addr
 d_26:FuncData
 a_27:Addr
 d_27:FuncData
 a_30:Addr
 d_30:FuncData
structure Tx (K:W.Frag) (mg:Str->Option Value) (t:Ad):Prop where
 n_ValueError:mg "ValueError"=none
 n_all:mg "all"=none
 n_bool:mg "bool"=none
 n_int:mg "int"=none
 n_isinstance:mg "isinstance"=none
 n_len:mg "len"=none
 n_list:mg "list"=none
 n_max:mg "max"=none
 n_min:mg "min"=none
 n_range:mg "range"=none
 n_set:mg "set"=none
 n_sorted:mg "sorted"=none
 n_sum:mg "sum"=none
 n_tuple:mg "tuple"=none
 g_0:mg "CoverError"=some (.ref t.a_0)
 g_1:mg "NoStock"=some (.ref t.a_1)
 g_2:mg "NoOffer"=some (.ref t.a_2)
 g_3:mg "NoThing"=some (.ref t.a_3)
 g_4:mg "NoCover"=some (.ref t.a_4)
 g_5:mg "NoPaper"=some (.ref t.a_5)
 g_6:mg "NoNumber"=some (.ref t.a_6)
 g_7:mg "NotFull"=some (.ref t.a_7)
 g_8:mg "NotInRow"=some (.ref t.a_8)
 g_9:mg "NoText"=some (.ref t.a_9)
 g_10:mg "NoRow"=some (.ref t.a_10)
 g_11:mg "TooMany"=some (.ref t.a_11)
 k_1:zbk K "NoStock" t.a_1
 k_2:zbk K "NoOffer" t.a_2
 k_3:zbk K "NoThing" t.a_3
 k_4:zbk K "NoCover" t.a_4
 k_5:zbk K "NoPaper" t.a_5
 k_6:zbk K "NoNumber" t.a_6
 k_7:zbk K "NotFull" t.a_7
 k_8:zbk K "NotInRow" t.a_8
 k_9:zbk K "NoText" t.a_9
 k_10:zbk K "NoRow" t.a_10
 k_11:zbk K "TooMany" t.a_11
 x_exc:zkd K t.a_0 zbK
 m_19:mg "_law_cell"=some (.ref t.a_19)
 F_19:Fun K "_law_cell" "_law_cell" s_19 t.a_19 t.d_19
 b_19:zaQ K t.d_19 ["script","k"] []
 m_20:mg "_law_box"=some (.ref t.a_20)
 F_20:Fun K "_law_box" "_law_box" s_20 t.a_20 t.d_20
 b_20:zaQ K t.d_20 ["script","k"] []
 m_21:mg "_law_take"=some (.ref t.a_21)
 F_21:Fun K "_law_take" "_law_take" s_21 t.a_21 t.d_21
 b_21:zaQ K t.d_21 ["box","many"] []
 m_24:mg "_law_things"=some (.ref t.a_24)
 F_24:Fun K "_law_things" "_law_things" s_24 t.a_24 t.d_24
 b_24:zaQ K t.d_24 ["box","many"] []
 m_25:mg "_law_full"=some (.ref t.a_25)
 F_25:Fun K "_law_full" "_law_full" s_25 t.a_25 t.d_25
 b_25:zaQ K t.d_25 ["box","most","lots"] []
 m_28:mg "_law_covers"=some (.ref t.a_28)
 F_28:Fun K "_law_covers" "_law_covers" s_28 t.a_28 t.d_28
 b_28:zaQ K t.d_28 ["stock"] []
 m_23:mg "_law_kind"=some (.ref t.a_23)
 F_23:Fun K "_law_kind" "_law_kind" s_23 t.a_23 t.d_23
 b_23:zaQ K t.d_23 ["e"] []
 m_16:mg "things_together"=some (.ref t.a_16)
 F_16:Fun K "things_together" "things_together" s_16 t.a_16 t.d_16
 b_16:zaQ K t.d_16 ["offers"] []
 m_17:mg "have_all"=some (.ref t.a_17)
 F_17:Fun K "have_all" "have_all" s_17 t.a_17 t.d_17
 b_17:zaQ K t.d_17 ["stock","offers"] []
 m_12:mg "is_full"=some (.ref t.a_12)
 F_12:Fun K "is_full" "is_full" s_12 t.a_12 t.d_12
 b_12:zaQ K t.d_12 ["stock"] []
 m_15:mg "need_full"=some (.ref t.a_15)
 F_15:Fun K "need_full" "need_full" s_15 t.a_15 t.d_15
 b_15:zaQ K t.d_15 ["stock"] []
 m_18:mg "exchanged"=some (.ref t.a_18)
 F_18:Fun K "exchanged" "exchanged" s_18 t.a_18 t.d_18
 b_18:zaQ K t.d_18 ["stock","number","offers"] []
 m_14:mg "is_needed"=some (.ref t.a_14)
 F_14:Fun K "is_needed" "is_needed" s_14 t.a_14 t.d_14
 b_14:zaQ K t.d_14 ["stock","number"] []
 m_13:mg "needed"=some (.ref t.a_13)
 F_13:Fun K "needed" "needed" s_13 t.a_13 t.d_13
 b_13:zaQ K t.d_13 ["stock"] []
 m_29:mg "_law_asked"=some (.ref t.a_29)
 F_29:Fun K "_law_asked" "_law_asked" s_29 t.a_29 t.d_29
 b_29:zaQ K t.d_29 ["stock"] []
 m_22:mg "_law_whole"=some (.ref t.a_22)
 F_22:Fun K "_law_whole" "_law_whole" s_22 t.a_22 t.d_22
 b_22:zaQ K t.d_22 ["thing"] []
 m_26:mg "_law_holed"=some (.ref t.a_26)
 F_26:Fun K "_law_holed" "_law_holed" s_26 t.a_26 t.d_26
 b_26:zaQ K t.d_26 ["box","stock"] []
 m_27:mg "_law_has"=some (.ref t.a_27)
 F_27:Fun K "_law_has" "_law_has" s_27 t.a_27 t.d_27
 b_27:zaQ K t.d_27 ["stock","lot"] []
 m_30:mg "law"=some (.ref t.a_30)
 F_30:Fun K "law" "law" s_30 t.a_30 t.d_30
 b_30:zaQ K t.d_30 ["script"] []
section
variable {P:Program} {w:World} {K:W.Frag} {mg:Str->Option Value} {base:Heap} {t:Ad}
theorem sc_19:zar ["script","k"] ["script","k"] (zaf s_19):=⟨rfl,rfl,rfl,by decide +kernel,rfl,by decide +kernel,by decide +kernel⟩
theorem ok_19 (T:Tx K mg t):zbZ P w K mg base CX0 1 t.a_19 t.d_19 ["script","k"] (zcx K 2 F_19):=by
 refine zcC (k:=0) (G:=G_19) (N:=["script","k"]) (ps:=["script","k"]) (st:=s_19) T.F_19 sc_19 fun cdv A outer s H E hr=> ?_
 refine zak ?_ ?_
 refine zlF ?_ ?_ ?_
 refine zbm ?_ ?_ ?_
 exact zlT
 exact zab 1
 refine zaT (id:="len") ?_ ?_ ?_ ?_
 exact za9
 exact zc1
 exact T.n_len
 refine zaa ?_ ?_
 exact zab 0
 exact zad
 refine zas ?_
 refine zbn ?_
 refine zcZ ?_ ?_
 exact zab 0
 exact zab 1
 exact zdD
 refine zas ?_
 refine zbn ?_
 refine zbH ?_ ?_ ?_
 exact zaE
 refine zbH ?_ ?_ ?_
 exact zcI
 exact zam
 exact zab 1
 exact zam
theorem nd_20:(["script","k","cell","number","mixed","j"]:List Str).Nodup:=by decide +kernel
theorem sc_20:zar ["script","k","cell","number","mixed","j"] ["script","k"] (zaf s_20):=⟨rfl,rfl,rfl,by decide +kernel,rfl,by decide +kernel,by decide +kernel⟩
theorem ok_20 (T:Tx K mg t):zbZ P w K mg base CX0 2 t.a_20 t.d_20 ["script","k"] (zcx K 2 F_20):=by
 have G_19:=ok_19 (P:=P) (w:=w) (base:=base) T
 refine zcC (k:=1) (G:=G_20) (N:=["script","k","cell","number","mixed","j"]) (ps:=["script","k"]) (st:=s_20) T.F_20 sc_20 fun cdv A outer s H E hr=> ?_
 refine zak ?_ ?_
 refine zbb 2 ?_ ?_
 exact nd_20
 refine zaK (k:=1) (g:=t.a_19) (fd:=t.d_19) (ps:=["script","k"]) ?_ ?_ ?_ ?_ ?_ ?_
 exact G_19
 exact (hr.mono (by decide))
 exact T.m_19
 exact T.F_19.kp
 exact T.b_19
 refine zaa ?_ ?_
 exact zab 0
 refine zaa ?_ ?_
 exact zab 1
 exact zad
 refine zak ?_ ?_
 refine zlF ?_ ?_ ?_
 refine zbm ?_ ?_ ?_
 exact (zfw (zgB hr))
 refine zbH ?_ ?_ ?_
 exact zdZ
 exact zab 2
 exact zam
 exact zam
 refine zas ?_
 refine zbn ?_
 refine zg0 ?_
 refine zaa ?_ ?_
 refine zbH ?_ ?_ ?_
 exact zhd
 exact zab 2
 exact zam
 exact zad
 exact zdD
 refine zak ?_ ?_
 refine zbb 3 ?_ ?_
 exact nd_20
 exact zam
 refine zak ?_ ?_
 refine zbb 4 ?_ ?_
 exact nd_20
 refine zbH ?_ ?_ ?_
 exact zdZ
 exact zab 2
 exact zam
 refine zak ?_ ?_
 refine zgT ?_ ?_ ?_ ?_ ?_
 exact rfl
 exact PassesOwn.never
 refine zes ?_ ?_
 exact T.n_range
 refine zaa ?_ ?_
 exact zam
 exact zad
 exact zan 5 nd_20
 refine zak ?_ ?_
 refine zbb 4 ?_ ?_
 exact nd_20
 refine zbH ?_ ?_ ?_
 exact zdZ
 refine zbH ?_ ?_ ?_
 exact zaE
 refine zbH ?_ ?_ ?_
 exact zaE
 refine zbH ?_ ?_ ?_
 exact zaE
 refine zbH ?_ ?_ ?_
 exact zcI
 exact zab 4
 exact zam
 refine zbH ?_ ?_ ?_
 exact zcI
 refine zbH ?_ ?_ ?_
 exact zcI
 exact zam
 exact zab 5
 exact zab 5
 refine zbH ?_ ?_ ?_
 exact zcI
 exact zam
 exact zab 1
 exact zam
 exact zam
 refine zas ?_
 refine zbb 3 ?_ ?_
 exact nd_20
 refine zbH ?_ ?_ ?_
 exact zaE
 refine zbH ?_ ?_ ?_
 exact zcI
 exact zab 3
 exact zam
 exact zab 4
 refine zas ?_
 refine zbn ?_
 refine zg0 ?_
 refine zaa ?_ ?_
 exact zab 3
 exact zad
theorem nd_21:(["box","many","digit"]:List Str).Nodup:=by decide +kernel
theorem sc_21:zar ["box","many","digit"] ["box","many"] (zaf s_21):=⟨rfl,rfl,rfl,by decide +kernel,rfl,by decide +kernel,by decide +kernel⟩
theorem ok_21 (T:Tx K mg t):zbZ P w K mg base CX0 1 t.a_21 t.d_21 ["box","many"] (zcx K 2 F_21):=by
 refine zcC (k:=0) (G:=G_21) (N:=["box","many","digit"]) (ps:=["box","many"]) (st:=s_21) T.F_21 sc_21 fun cdv A outer s H E hr=> ?_
 refine zak ?_ ?_
 refine zbb 2 ?_ ?_
 exact nd_21
 refine zbH ?_ ?_ ?_
 exact zdZ
 refine zcZ ?_ ?_
 exact zab 0
 exact zam
 exact zab 1
 refine zak ?_ ?_
 refine zkR ?_ ?_
 refine zbH ?_ ?_ ?_
 exact zhd
 refine zcZ ?_ ?_
 exact zab 0
 exact zam
 exact zab 1
 refine zmb ?_ ?_
 exact zab 0
 exact zam
 refine zas ?_
 refine zbn ?_
 exact zab 2
theorem nd_24:(["box","many","way","bits","first","step"]:List Str).Nodup:=by decide +kernel
theorem zqJ:(["thing","bits"]:List Str).Nodup:=by decide +kernel
theorem zrm:(["k","first","step","many"]:List Str).Nodup:=by decide +kernel
theorem sc_24:zar ["box","many","way","bits","first","step"] ["box","many"] (zaf s_24):=⟨rfl,rfl,rfl,by decide +kernel,rfl,by decide +kernel,by decide +kernel⟩
theorem ok_24 (T:Tx K mg t):zbZ P w K mg base CX0 2 t.a_24 t.d_24 ["box","many"] (zcx K 2 F_24):=by
 have G_21:=ok_21 (P:=P) (w:=w) (base:=base) T
 refine zcC (k:=1) (G:=G_24) (N:=["box","many","way","bits","first","step"]) (ps:=["box","many"]) (st:=s_24) T.F_24 sc_24 fun cdv A outer s H E hr=> ?_
 refine zak ?_ ?_
 refine zbb 2 ?_ ?_
 exact nd_24
 refine zaK (k:=1) (g:=t.a_21) (fd:=t.d_21) (ps:=["box","many"]) ?_ ?_ ?_ ?_ ?_ ?_
 exact G_21
 exact (hr.mono (by decide))
 exact T.m_21
 exact T.F_21.kp
 exact T.b_21
 refine zaa ?_ ?_
 exact zab 0
 refine zaa ?_ ?_
 exact zam
 exact zad
 refine zak ?_ ?_
 refine zlF ?_ ?_ ?_
 refine zbm ?_ ?_ ?_
 exact (zfw (zgB hr))
 exact zab 2
 exact zam
 refine zak ?_ ?_
 refine zbb 3 ?_ ?_
 exact nd_24
 refine zbH ?_ ?_ ?_
 exact zaE
 exact zam
 refine zaK (k:=1) (g:=t.a_21) (fd:=t.d_21) (ps:=["box","many"]) ?_ ?_ ?_ ?_ ?_ ?_
 exact G_21
 exact (hr.mono (by decide))
 exact T.m_21
 exact T.F_21.kp
 exact T.b_21
 refine zaa ?_ ?_
 exact zab 0
 refine zaa ?_ ?_
 refine zbH ?_ ?_ ?_
 exact zgN
 refine zbH ?_ ?_ ?_
 exact zgX
 exact zam
 exact zab 1
 exact zam
 exact zad
 refine zas ?_
 refine zbn ?_
 refine zbq (T:="tuple") ?_ ?_ ?_ ?_
 exact zaR
 exact zbL
 exact T.n_tuple
 refine zaa ?_ ?_
 refine zcg (N:=["thing","bits"]) ?_ ?_ ?_ ?_ ?_ ?_ ?_
 exact rfl
 exact (BOk.of (Xn:=(zaf s_24).names) (XN:=["box","many","way","bits","first","step"]) rfl rfl rfl (by decide +kernel))
 exact (zat.name (i:=0) rfl)
 refine zes ?_ ?_
 exact T.n_range
 refine zaa ?_ ?_
 exact zab 1
 exact zad
 intro _ _ _
 exact zan 0 zqJ
 intro _ _ _
 refine zcY ?_
 refine zbm ?_ ?_ ?_
 exact (zfw (zgB hr))
 refine zbH ?_ ?_ ?_
 exact znj
 refine zbH ?_ ?_ ?_
 exact zm0
 exact zab 1
 exact zab 0
 exact zam
 exact zam
 intro _ _ _
 exact zab 0
 exact zad
 exact zdD
 refine zak ?_ ?_
 refine zkR ?_ ?_
 refine zdg ?_
 refine zaa ?_ ?_
 refine zaK (k:=1) (g:=t.a_21) (fd:=t.d_21) (ps:=["box","many"]) ?_ ?_ ?_ ?_ ?_ ?_
 exact G_21
 exact (hr.mono (by decide))
 exact T.m_21
 exact T.F_21.kp
 exact T.b_21
 refine zaa ?_ ?_
 exact zab 0
 refine zaa ?_ ?_
 exact zab 1
 exact zad
 refine zaa ?_ ?_
 refine zcZ ?_ ?_
 refine zdH ?_
 refine zaa ?_ ?_
 exact zam
 refine zaa ?_ ?_
 refine zbH ?_ ?_ ?_
 exact zaE
 exact zam
 refine zaK (k:=1) (g:=t.a_21) (fd:=t.d_21) (ps:=["box","many"]) ?_ ?_ ?_ ?_ ?_ ?_
 exact G_21
 exact (hr.mono (by decide))
 exact T.m_21
 exact T.F_21.kp
 exact T.b_21
 refine zaa ?_ ?_
 exact zab 0
 refine zaa ?_ ?_
 exact zam
 exact zad
 exact zad
 refine zbH ?_ ?_ ?_
 exact zgN
 exact zab 2
 exact zam
 exact zad
 refine zeI ?_ ?_
 exact rfl
 refine zaZ ?_ ?_
 exact zan 4 nd_24
 refine zaZ ?_ ?_
 exact zan 5 nd_24
 exact zdh
 refine zas ?_
 refine zbn ?_
 refine zbq (T:="tuple") ?_ ?_ ?_ ?_
 exact zaR
 exact zbL
 exact T.n_tuple
 refine zaa ?_ ?_
 refine zfq ?_ ?_ ?_ ?_
 exact rfl
 exact T.n_sorted
 exact T.n_set
 refine zcg (N:=["k","first","step","many"]) ?_ ?_ ?_ ?_ ?_ ?_ ?_
 exact rfl
 exact (BOk.of (Xn:=(zaf s_24).names) (XN:=["box","many","way","bits","first","step"]) rfl rfl rfl (by decide +kernel))
 exact (zat.name (i:=0) rfl)
 refine zes ?_ ?_
 exact T.n_range
 refine zaa ?_ ?_
 refine zbH ?_ ?_ ?_
 exact zaE
 exact zam
 refine zaK (k:=1) (g:=t.a_21) (fd:=t.d_21) (ps:=["box","many"]) ?_ ?_ ?_ ?_ ?_ ?_
 exact G_21
 exact (hr.mono (by decide))
 exact T.m_21
 exact T.F_21.kp
 exact T.b_21
 refine zaa ?_ ?_
 exact zab 0
 refine zaa ?_ ?_
 exact zam
 exact zad
 exact zad
 intro _ _ _
 exact zan 0 zrm
 intro _ _ _
 exact zcX
 intro _ _ _
 refine zbH ?_ ?_ ?_
 exact zdZ
 refine zbH ?_ ?_ ?_
 exact zaE
 exact zab 1
 refine zbH ?_ ?_ ?_
 exact zcI
 exact zab 2
 exact zab 0
 exact zab 3
 exact zad
theorem nd_25:(["box","most","lots","many","far","rows","thing","row"]:List Str).Nodup:=by decide +kernel
theorem zrv:(["k","box","many","far"]:List Str).Nodup:=by decide +kernel
theorem zrt:(["row","thing"]:List Str).Nodup:=by decide +kernel
theorem zrJ:(["row"]:List Str).Nodup:=by decide +kernel
theorem sc_25:zar ["box","most","lots","many","far","rows","thing","row"] ["box","most","lots"] (zaf s_25):=⟨rfl,rfl,rfl,by decide +kernel,rfl,by decide +kernel,by decide +kernel⟩
theorem ok_25 (T:Tx K mg t):zbZ P w K mg base CX0 3 t.a_25 t.d_25 ["box","most","lots"] (zcx K 3 F_25):=by
 have G_21:=ok_21 (P:=P) (w:=w) (base:=base) T
 have G_24:=ok_24 (P:=P) (w:=w) (base:=base) T
 refine zcC (k:=2) (G:=G_25) (N:=["box","most","lots","many","far","rows","thing","row"]) (ps:=["box","most","lots"]) (st:=s_25) T.F_25 sc_25 fun cdv A outer s H E hr=> ?_
 refine zak ?_ ?_
 refine zbb 3 ?_ ?_
 exact nd_25
 refine zbH ?_ ?_ ?_
 exact zaE
 exact zam
 refine zaK (k:=1) (g:=t.a_21) (fd:=t.d_21) (ps:=["box","many"]) ?_ ?_ ?_ ?_ ?_ ?_
 exact G_21
 exact (hr.mono (by decide))
 exact T.m_21
 exact T.F_21.kp
 exact T.b_21
 refine zaa ?_ ?_
 exact zab 0
 refine zaa ?_ ?_
 exact zab 1
 exact zad
 refine zak ?_ ?_
 refine zbb 4 ?_ ?_
 exact nd_25
 refine zcZ ?_ ?_
 refine zdH ?_
 refine zaa ?_ ?_
 exact zam
 refine zaa ?_ ?_
 exact zam
 refine zaa ?_ ?_
 exact zam
 refine zaa ?_ ?_
 refine zbH ?_ ?_ ?_
 exact zmL
 exact zam
 exact zam
 exact zad
 refine zaK (k:=1) (g:=t.a_21) (fd:=t.d_21) (ps:=["box","many"]) ?_ ?_ ?_ ?_ ?_ ?_
 exact G_21
 exact (hr.mono (by decide))
 exact T.m_21
 exact T.F_21.kp
 exact T.b_21
 refine zaa ?_ ?_
 exact zab 0
 refine zaa ?_ ?_
 exact zam
 exact zad
 refine zak ?_ ?_
 refine zel 5 (N:=["k","box","many","far"]) ?_ ?_ ?_ ?_ ?_ ?_ ?_ ?_
 exact rfl
 exact nd_25
 exact (BOk.of (Xn:=(zaf s_25).names) (XN:=["box","most","lots","many","far","rows","thing","row"]) rfl rfl rfl (by decide +kernel))
 exact (zat.name (i:=0) rfl)
 refine zes ?_ ?_
 exact T.n_range
 refine zaa ?_ ?_
 refine zbH ?_ ?_ ?_
 exact zaE
 exact zam
 refine zaK (k:=1) (g:=t.a_21) (fd:=t.d_21) (ps:=["box","many"]) ?_ ?_ ?_ ?_ ?_ ?_
 exact G_21
 exact (hr.mono (by decide))
 exact T.m_21
 exact T.F_21.kp
 exact T.b_21
 refine zaa ?_ ?_
 exact zab 0
 refine zaa ?_ ?_
 exact zab 2
 exact zad
 exact zad
 intro _ _ _
 exact zan 0 zrv
 intro _ _ _
 exact zcX
 intro _ _ _
 refine zg0 ?_
 refine zaa ?_ ?_
 refine zaK (k:=2) (g:=t.a_24) (fd:=t.d_24) (ps:=["box","many"]) ?_ ?_ ?_ ?_ ?_ ?_
 exact G_24
 exact (hr.mono (by decide))
 exact T.m_24
 exact T.F_24.kp
 exact T.b_24
 refine zaa ?_ ?_
 exact zab 1
 refine zaa ?_ ?_
 exact zab 2
 exact zad
 refine zaa ?_ ?_
 refine zbH ?_ ?_ ?_
 exact zaE
 exact zam
 refine zaK (k:=1) (g:=t.a_21) (fd:=t.d_21) (ps:=["box","many"]) ?_ ?_ ?_ ?_ ?_ ?_
 exact G_21
 exact (hr.mono (by decide))
 exact T.m_21
 exact T.F_21.kp
 exact T.b_21
 refine zaa ?_ ?_
 exact zab 1
 refine zaa ?_ ?_
 exact zab 3
 exact zad
 exact zad
 refine zak ?_ ?_
 refine zgT ?_ ?_ ?_ ?_ ?_
 exact rfl
 exact PassesOwn.never
 refine zes ?_ ?_
 exact T.n_range
 refine zaa ?_ ?_
 exact zab 3
 exact zad
 exact zan 6 nd_25
 refine zas ?_
 refine zlF ?_ ?_ ?_
 refine zbm ?_ ?_ ?_
 exact (zlQ (zgB hr))
 refine zcg (N:=["row","thing"]) ?_ ?_ ?_ ?_ ?_ ?_ ?_
 exact rfl
 exact (BOk.of (Xn:=(zaf s_25).names) (XN:=["box","most","lots","many","far","rows","thing","row"]) rfl rfl rfl (by decide +kernel))
 exact (zat.name (i:=0) rfl)
 refine zc9 ?_
 exact zab 5
 intro _ _ _
 exact zan 0 zrt
 intro _ _ _
 refine zcY ?_
 refine zbm ?_ ?_ ?_
 exact (zoo (zgB hr))
 exact zab 1
 refine zcZ ?_ ?_
 exact zab 0
 exact zam
 intro _ _ _
 exact zab 0
 refine zdH ?_
 exact zad
 refine zak ?_ ?_
 refine zbb 7 ?_ ?_
 exact nd_25
 refine zcZ ?_ ?_
 exact zab 5
 refine zaK (k:=1) (g:=t.a_21) (fd:=t.d_21) (ps:=["box","many"]) ?_ ?_ ?_ ?_ ?_ ?_
 exact G_21
 exact (hr.mono (by decide))
 exact T.m_21
 exact T.F_21.kp
 exact T.b_21
 refine zaa ?_ ?_
 exact zab 0
 refine zaa ?_ ?_
 refine zaT (id:="len") ?_ ?_ ?_ ?_
 exact za9
 exact zc1
 exact T.n_len
 refine zaa ?_ ?_
 exact zab 5
 exact zad
 exact zad
 refine zas ?_
 refine zkR ?_ ?_
 refine zbq (T:="tuple") ?_ ?_ ?_ ?_
 exact zaR
 exact zbL
 exact T.n_tuple
 refine zaa ?_ ?_
 refine zaT (id:="sorted") ?_ ?_ ?_ ?_
 exact (zdz rfl)
 exact zea
 exact T.n_sorted
 refine zaa ?_ ?_
 refine zbH ?_ ?_ ?_
 exact zaE
 refine zcZ ?_ ?_
 exact zab 7
 exact zam
 refine zdg ?_
 refine zaa ?_ ?_
 exact zab 6
 exact zad
 exact zad
 exact zad
 refine zmb ?_ ?_
 exact zab 7
 exact zam
 exact zdD
 refine zas ?_
 refine zbn ?_
 refine zdg ?_
 refine zaa ?_ ?_
 exact zab 3
 refine zaa ?_ ?_
 refine zbq (T:="tuple") ?_ ?_ ?_ ?_
 exact zaR
 exact zbL
 exact T.n_tuple
 refine zaa ?_ ?_
 refine zcg (N:=["row"]) ?_ ?_ ?_ ?_ ?_ ?_ ?_
 exact rfl
 exact (BOk.of (Xn:=(zaf s_25).names) (XN:=["box","most","lots","many","far","rows","thing","row"]) rfl rfl rfl (by decide +kernel))
 exact (zat.name (i:=0) rfl)
 refine zc9 ?_
 exact zab 5
 intro _ _ _
 exact zan 0 zrJ
 intro _ _ _
 exact zcX
 intro _ _ _
 refine zdg ?_
 refine zaa ?_ ?_
 refine zcZ ?_ ?_
 exact zab 0
 exact zam
 refine zaa ?_ ?_
 refine zcZ ?_ ?_
 exact zab 0
 exact zam
 exact zad
 exact zad
 exact zad
theorem nd_28:(["stock","found","masks","lots","offer"]:List Str).Nodup:=by decide +kernel
theorem zl8:(["things","price"]:List Str).Nodup:=by decide +kernel
theorem zo7:(["thing"]:List Str).Nodup:=by decide +kernel
theorem zmj:(["lot","had","offer","masks"]:List Str).Nodup:=by decide +kernel
theorem zl3:(["lot","had","stock"]:List Str).Nodup:=by decide +kernel
theorem sc_28:zar ["stock","found","masks","lots","offer"] ["stock"] (zaf s_28):=⟨rfl,rfl,rfl,by decide +kernel,rfl,by decide +kernel,by decide +kernel⟩
theorem ok_28 (T:Tx K mg t):zbZ P w K mg base CX0 1 t.a_28 t.d_28 ["stock"] (zcx K 1 F_28):=by
 refine zcC (k:=0) (G:=G_28) (N:=["stock","found","masks","lots","offer"]) (ps:=["stock"]) (st:=s_28) T.F_28 sc_28 fun cdv A outer s H E hr=> ?_
 refine zak ?_ ?_
 refine zbb 1 ?_ ?_
 exact nd_28
 refine zdH ?_
 exact zad
 refine zak ?_ ?_
 refine zbb 2 ?_ ?_
 exact nd_28
 refine zcg (N:=["things","price"]) ?_ ?_ ?_ ?_ ?_ ?_ ?_
 exact rfl
 exact (BOk.of (Xn:=(zaf s_28).names) (XN:=["stock","found","masks","lots","offer"]) rfl rfl rfl (by decide +kernel))
 exact (zat.tup (zaO.cons (i:=0) rfl (zaO.cons (i:=1) rfl zaO.nil)))
 refine zc9 ?_
 refine zcZ ?_ ?_
 exact zab 0
 exact zam
 intro _ _ _
 refine zeI ?_ ?_
 exact rfl
 refine zaZ ?_ ?_
 exact zan 0 zl8
 refine zaZ ?_ ?_
 exact zan 1 zl8
 exact zdh
 intro _ _ _
 exact zcX
 intro _ _ _
 refine zaT (id:="sum") ?_ ?_ ?_ ?_
 exact (zju rfl)
 exact zl6
 exact T.n_sum
 refine zaa ?_ ?_
 refine zcg (N:=["thing"]) ?_ ?_ ?_ ?_ ?_ ?_ ?_
 exact rfl
 exact (BOk.of (N:=["thing"]) (src:=[none]) rfl rfl rfl (by rfl))
 exact (zat.name (i:=0) rfl)
 refine zc9 ?_
 exact zab 0
 intro _ _ _
 exact zan 0 zo7
 intro _ _ _
 exact zcX
 intro _ _ _
 refine zbH ?_ ?_ ?_
 exact zgX
 exact zam
 exact zab 0
 exact zad
 refine zak ?_ ?_
 refine zbb 3 ?_ ?_
 exact nd_28
 refine zdH ?_
 refine zaa ?_ ?_
 refine zdg ?_
 refine zaa ?_ ?_
 refine zdg ?_
 exact zad
 refine zaa ?_ ?_
 exact zam
 exact zad
 exact zad
 refine zak ?_ ?_
 refine zgT ?_ ?_ ?_ ?_ ?_
 exact rfl
 exact PassesOwn.never
 refine zes ?_ ?_
 exact T.n_range
 refine zaa ?_ ?_
 refine zaT (id:="len") ?_ ?_ ?_ ?_
 exact za9
 exact zc1
 exact T.n_len
 refine zaa ?_ ?_
 exact zab 2
 exact zad
 exact zad
 exact zan 4 nd_28
 refine zas ?_
 refine zbb 3 ?_ ?_
 exact nd_28
 refine zbH ?_ ?_ ?_
 exact zaE
 exact zab 3
 refine zcg (N:=["lot","had","offer","masks"]) ?_ ?_ ?_ ?_ ?_ ?_ ?_
 exact rfl
 exact (BOk.of (Xn:=(zaf s_28).names) (XN:=["stock","found","masks","lots","offer"]) rfl rfl rfl (by decide +kernel))
 exact (zat.tup (zaO.cons (i:=0) rfl (zaO.cons (i:=1) rfl zaO.nil)))
 refine zc9 ?_
 exact zab 3
 intro _ _ _
 refine zeI ?_ ?_
 exact rfl
 refine zaZ ?_ ?_
 exact zan 0 zmj
 refine zaZ ?_ ?_
 exact zan 1 zmj
 exact zdh
 intro _ _ _
 exact zcX
 intro _ _ _
 refine zdg ?_
 refine zaa ?_ ?_
 refine zbH ?_ ?_ ?_
 exact zaE
 exact zab 0
 refine zdg ?_
 refine zaa ?_ ?_
 exact zab 2
 exact zad
 refine zaa ?_ ?_
 refine zbH ?_ ?_ ?_
 exact zoQ
 exact zab 1
 refine zcZ ?_ ?_
 exact zab 3
 exact zab 2
 exact zad
 refine zas ?_
 refine zbn ?_
 refine zaT (id:="sorted") ?_ ?_ ?_ ?_
 exact (zgU (zgB hr))
 exact zea
 exact T.n_sorted
 refine zaa ?_ ?_
 refine zcg (N:=["lot","had","stock"]) ?_ ?_ ?_ ?_ ?_ ?_ ?_
 exact rfl
 exact (BOk.of (Xn:=(zaf s_28).names) (XN:=["stock","found","masks","lots","offer"]) rfl rfl rfl (by decide +kernel))
 exact (zat.tup (zaO.cons (i:=0) rfl (zaO.cons (i:=1) rfl zaO.nil)))
 refine zc9 ?_
 exact zab 3
 intro _ _ _
 refine zeI ?_ ?_
 exact rfl
 refine zaZ ?_ ?_
 exact zan 0 zl3
 refine zaZ ?_ ?_
 exact zan 1 zl3
 exact zdh
 intro _ _ _
 refine zcY ?_
 refine zbm ?_ ?_ ?_
 exact (zfw (zgB hr))
 exact zab 1
 refine zbH ?_ ?_ ?_
 exact zgN
 refine zbH ?_ ?_ ?_
 exact zgX
 exact zam
 refine zcZ ?_ ?_
 exact zab 2
 exact zam
 exact zam
 intro _ _ _
 exact zab 0
 exact zad
theorem nd_23:(["e","kinds","words"]:List Str).Nodup:=by decide +kernel
theorem zrO:(["kind"]:List Str).Nodup:=by decide +kernel
theorem sc_23:zar ["e","kinds","words"] ["e"] (zaf s_23):=⟨rfl,rfl,rfl,by decide +kernel,rfl,by decide +kernel,by decide +kernel⟩
theorem ok_23 (T:Tx K mg t):FnH P w K mg base  1 t.a_23 t.d_23 ["e"] (zcx K 1 F_23):=by
 refine zoG (k:=0) (G:=G_23) (N:=["e","kinds","words"]) (ps:=["e"]) (st:=s_23) T.F_23 sc_23 fun cdv A outer s H hr=> ?_
 refine zak ?_ ?_
 refine zbb 1 ?_ ?_
 exact nd_23
 refine zdH ?_
 refine zaa ?_ ?_
 refine zdU (CE:=t.a_0) (CC:=t.a_1) ?_ ?_ ?_ ?_ ?_ ?_
 exact T.x_exc
 exact (by decide +kernel)
 exact T.k_1
 exact T.n_isinstance
 exact T.g_1
 exact zab 0
 refine zaa ?_ ?_
 refine zdU (CE:=t.a_0) (CC:=t.a_2) ?_ ?_ ?_ ?_ ?_ ?_
 exact T.x_exc
 exact (by decide +kernel)
 exact T.k_2
 exact T.n_isinstance
 exact T.g_2
 exact zab 0
 refine zaa ?_ ?_
 refine zdU (CE:=t.a_0) (CC:=t.a_3) ?_ ?_ ?_ ?_ ?_ ?_
 exact T.x_exc
 exact (by decide +kernel)
 exact T.k_3
 exact T.n_isinstance
 exact T.g_3
 exact zab 0
 refine zaa ?_ ?_
 refine zdU (CE:=t.a_0) (CC:=t.a_4) ?_ ?_ ?_ ?_ ?_ ?_
 exact T.x_exc
 exact (by decide +kernel)
 exact T.k_4
 exact T.n_isinstance
 exact T.g_4
 exact zab 0
 exact zad
 refine zak ?_ ?_
 refine zbb 1 ?_ ?_
 exact nd_23
 refine zbH ?_ ?_ ?_
 exact zaE
 exact zab 1
 refine zdH ?_
 refine zaa ?_ ?_
 refine zdU (CE:=t.a_0) (CC:=t.a_5) ?_ ?_ ?_ ?_ ?_ ?_
 exact T.x_exc
 exact (by decide +kernel)
 exact T.k_5
 exact T.n_isinstance
 exact T.g_5
 exact zab 0
 refine zaa ?_ ?_
 refine zdU (CE:=t.a_0) (CC:=t.a_6) ?_ ?_ ?_ ?_ ?_ ?_
 exact T.x_exc
 exact (by decide +kernel)
 exact T.k_6
 exact T.n_isinstance
 exact T.g_6
 exact zab 0
 refine zaa ?_ ?_
 refine zdU (CE:=t.a_0) (CC:=t.a_7) ?_ ?_ ?_ ?_ ?_ ?_
 exact T.x_exc
 exact (by decide +kernel)
 exact T.k_7
 exact T.n_isinstance
 exact T.g_7
 exact zab 0
 refine zaa ?_ ?_
 refine zdU (CE:=t.a_0) (CC:=t.a_8) ?_ ?_ ?_ ?_ ?_ ?_
 exact T.x_exc
 exact (by decide +kernel)
 exact T.k_8
 exact T.n_isinstance
 exact T.g_8
 exact zab 0
 exact zad
 refine zak ?_ ?_
 refine zbb 1 ?_ ?_
 exact nd_23
 refine zbH ?_ ?_ ?_
 exact zaE
 exact zab 1
 refine zdH ?_
 refine zaa ?_ ?_
 refine zdU (CE:=t.a_0) (CC:=t.a_9) ?_ ?_ ?_ ?_ ?_ ?_
 exact T.x_exc
 exact (by decide +kernel)
 exact T.k_9
 exact T.n_isinstance
 exact T.g_9
 exact zab 0
 refine zaa ?_ ?_
 refine zdU (CE:=t.a_0) (CC:=t.a_10) ?_ ?_ ?_ ?_ ?_ ?_
 exact T.x_exc
 exact (by decide +kernel)
 exact T.k_10
 exact T.n_isinstance
 exact T.g_10
 exact zab 0
 refine zaa ?_ ?_
 refine zdU (CE:=t.a_0) (CC:=t.a_11) ?_ ?_ ?_ ?_ ?_ ?_
 exact T.x_exc
 exact (by decide +kernel)
 exact T.k_11
 exact T.n_isinstance
 exact T.g_11
 exact zab 0
 exact zad
 refine zak ?_ ?_
 refine zlF ?_ ?_ ?_
 refine zgw ?_
 refine znp ?_ ?_
 refine zhm ?_
 refine zfV ?_
 refine zqd (CE:=t.a_0) ?_ ?_ ?_ ?_
 exact T.x_exc
 exact T.n_isinstance
 exact T.n_ValueError
 exact zab 0
 refine zlX ?_
 refine zbm ?_ ?_ ?_
 exact (zi6 (zq4 hr))
 refine zaT (id:="sum") ?_ ?_ ?_ ?_
 exact zid
 exact zl6
 exact T.n_sum
 refine zaa ?_ ?_
 refine zmU (N:=["kind"]) ?_ ?_ ?_ ?_ ?_ ?_
 exact (BOk.of (Xn:=(zaf s_23).names) (XN:=["e","kinds","words"]) rfl rfl rfl (by decide +kernel))
 exact (zat.name (i:=0) rfl)
 refine zc9 ?_
 exact zab 1
 intro _ _ _
 exact zan 0 zrO
 intro _ _ _
 exact zcX
 intro _ _ _
 refine zbq (T:="int") ?_ ?_ ?_ ?_
 exact zh6
 exact zl4
 exact T.n_int
 refine zaa ?_ ?_
 exact zab 0
 exact zad
 exact zad
 exact zam
 refine zas ?_
 refine zbn ?_
 exact zdd
 exact zdD
 refine zak ?_ ?_
 refine zbb 2 ?_ ?_
 exact nd_23
 refine zdH ?_
 refine zaa ?_ ?_
 exact zdd
 refine zaa ?_ ?_
 exact zdd
 refine zaa ?_ ?_
 exact zdd
 refine zaa ?_ ?_
 exact zdd
 refine zaa ?_ ?_
 exact zdd
 refine zaa ?_ ?_
 exact zdd
 refine zaa ?_ ?_
 exact zdd
 refine zaa ?_ ?_
 exact zdd
 refine zaa ?_ ?_
 exact zdd
 refine zaa ?_ ?_
 exact zdd
 refine zaa ?_ ?_
 exact zdd
 exact zad
 refine zas ?_
 refine zbn ?_
 refine zbH ?_ ?_ ?_
 exact zaE
 exact zdd
 refine zcZ ?_ ?_
 exact zab 2
 refine zn5 ?_
 exact zab 1
theorem nd_16:(["offers","things","offer"]:List Str).Nodup:=by decide +kernel
theorem sc_16:zar ["offers","things","offer"] ["offers"] (zaf s_16):=⟨rfl,rfl,rfl,by decide +kernel,rfl,by decide +kernel,by decide +kernel⟩
theorem ok_16 (T:Tx K mg t):zbZ P w K mg base CX0 1 t.a_16 t.d_16 ["offers"] (zcx K 1 F_16):=by
 refine zcC (k:=0) (G:=G_16) (N:=["offers","things","offer"]) (ps:=["offers"]) (st:=s_16) T.F_16 sc_16 fun cdv A outer s H E hr=> ?_
 refine zak ?_ ?_
 refine zbb 1 ?_ ?_
 exact nd_16
 refine zg0 ?_
 exact zad
 refine zak ?_ ?_
 refine zgT ?_ ?_ ?_ ?_ ?_
 exact rfl
 exact PassesOwn.never
 refine zc9 ?_
 exact zab 0
 exact zan 2 nd_16
 refine zas ?_
 refine zjF ?_
 refine zlu ?_ ?_
 exact zab 1
 refine zcZ ?_ ?_
 exact zab 2
 exact zam
 refine zas ?_
 refine zbn ?_
 refine zbq (T:="tuple") ?_ ?_ ?_ ?_
 exact zaR
 exact zbL
 exact T.n_tuple
 refine zaa ?_ ?_
 refine zfq ?_ ?_ ?_ ?_
 exact rfl
 exact T.n_sorted
 exact T.n_set
 exact zab 1
 exact zad
theorem sc_17:zar ["stock","offers"] ["stock","offers"] (zaf s_17):=⟨rfl,rfl,rfl,by decide +kernel,rfl,by decide +kernel,by decide +kernel⟩
theorem ok_17 (T:Tx K mg t):zbZ P w K mg base CX0 2 t.a_17 t.d_17 ["stock","offers"] (zcx K 2 F_17):=by
 have G_16:=ok_16 (P:=P) (w:=w) (base:=base) T
 refine zcC (k:=1) (G:=G_17) (N:=["stock","offers"]) (ps:=["stock","offers"]) (st:=s_17) T.F_17 sc_17 fun cdv A outer s H E hr=> ?_
 refine zas ?_
 refine zbn ?_
 refine zqy ?_ ?_ ?_
 exact (zfw (zgB hr))
 refine zaT (id:="len") ?_ ?_ ?_ ?_
 exact za9
 exact zc1
 exact T.n_len
 refine zaa ?_ ?_
 refine zaK (k:=1) (g:=t.a_16) (fd:=t.d_16) (ps:=["offers"]) ?_ ?_ ?_ ?_ ?_ ?_
 exact G_16
 exact (hr.mono (by decide))
 exact T.m_16
 exact T.F_16.kp
 exact T.b_16
 refine zaa ?_ ?_
 exact zab 1
 exact zad
 exact zad
 refine zcZ ?_ ?_
 exact zab 0
 exact zam
theorem sc_12:zar ["stock"] ["stock"] (zaf s_12):=⟨rfl,rfl,rfl,by decide +kernel,rfl,by decide +kernel,by decide +kernel⟩
theorem ok_12 (T:Tx K mg t):zbZ P w K mg base CX0 3 t.a_12 t.d_12 ["stock"] (zcx K 1 F_12):=by
 have G_17:=ok_17 (P:=P) (w:=w) (base:=base) T
 refine zcC (k:=2) (G:=G_12) (N:=["stock"]) (ps:=["stock"]) (st:=s_12) T.F_12 sc_12 fun cdv A outer s H E hr=> ?_
 refine zas ?_
 refine zbn ?_
 refine zaK (k:=2) (g:=t.a_17) (fd:=t.d_17) (ps:=["stock","offers"]) ?_ ?_ ?_ ?_ ?_ ?_
 exact G_17
 exact (hr.mono (by decide))
 exact T.m_17
 exact T.F_17.kp
 exact T.b_17
 refine zaa ?_ ?_
 exact zab 0
 refine zaa ?_ ?_
 refine zcZ ?_ ?_
 exact zab 0
 exact zam
 exact zad
theorem sc_15:zar ["stock"] ["stock"] (zaf s_15):=⟨rfl,rfl,rfl,by decide +kernel,rfl,by decide +kernel,by decide +kernel⟩
theorem ok_15 (T:Tx K mg t):zbZ P w K mg base (CXE P w) 4 t.a_15 t.d_15 ["stock"] (spE K 1 F_15):=by
 have G_12:=ok_12 (P:=P) (w:=w) (base:=base) T
 refine zl7 (k:=3) (G:=G_15) (N:=["stock"]) (ps:=["stock"]) (st:=s_15) T.F_15 sc_15 fun cdv A outer s H E hr=> ?_
 refine zas ?_
 refine zlF ?_ ?_ ?_
 refine zhm ?_
 refine zfV ?_
 refine zjv (k:=3) (g:=t.a_12) (fd:=t.d_12) (ps:=["stock"]) ?_ ?_ ?_ ?_ ?_ ?_
 exact G_12
 exact (hr.mono (by decide))
 exact T.m_12
 exact T.F_12.kp
 exact T.b_12
 refine zaa ?_ ?_
 exact zab 0
 exact zad
 refine zas ?_
 exact znS (c:="NotFull") rfl zla T.x_exc (by decide +kernel) T.k_7
 exact zdD
theorem sc_18:zar ["stock","number","offers"] ["stock","number","offers"] (zaf s_18):=⟨rfl,rfl,rfl,by decide +kernel,rfl,by decide +kernel,by decide +kernel⟩
theorem ok_18 (T:Tx K mg t):zbZ P w K mg base CX0 1 t.a_18 t.d_18 ["stock","number","offers"] (zcx K 3 F_18):=by
 refine zcC (k:=0) (G:=G_18) (N:=["stock","number","offers"]) (ps:=["stock","number","offers"]) (st:=s_18) T.F_18 sc_18 fun cdv A outer s H E hr=> ?_
 refine zas ?_
 refine zbn ?_
 refine zdg ?_
 refine zaa ?_ ?_
 refine zcZ ?_ ?_
 exact zab 0
 exact zam
 refine zaa ?_ ?_
 refine zbH ?_ ?_ ?_
 exact zaE
 refine zbH ?_ ?_ ?_
 exact zaE
 refine zhj ?_ ?_ ?_
 refine zcZ ?_ ?_
 exact zab 0
 exact zam
 exact ziB
 refine zjK ?_
 exact zab 1
 exact zab 2
 refine zhj ?_ ?_ ?_
 refine zcZ ?_ ?_
 exact zab 0
 exact zam
 refine zjK ?_
 refine zbH ?_ ?_ ?_
 exact zaE
 exact zab 1
 exact zam
 exact ziB
 exact zad
theorem sc_14:zar ["stock","number"] ["stock","number"] (zaf s_14):=⟨rfl,rfl,rfl,by decide +kernel,rfl,by decide +kernel,by decide +kernel⟩
theorem ok_14 (T:Tx K mg t):zbZ P w K mg base CX0 4 t.a_14 t.d_14 ["stock","number"] (zcx K 2 F_14):=by
 have G_12:=ok_12 (P:=P) (w:=w) (base:=base) T
 have G_18:=ok_18 (P:=P) (w:=w) (base:=base) T
 refine zcC (k:=3) (G:=G_14) (N:=["stock","number"]) (ps:=["stock","number"]) (st:=s_14) T.F_14 sc_14 fun cdv A outer s H E hr=> ?_
 refine zas ?_
 refine zbn ?_
 refine zoR ?_
 refine zaK (k:=3) (g:=t.a_12) (fd:=t.d_12) (ps:=["stock"]) ?_ ?_ ?_ ?_ ?_ ?_
 exact G_12
 exact (hr.mono (by decide))
 exact T.m_12
 exact T.F_12.kp
 exact T.b_12
 refine zaa ?_ ?_
 refine zaK (k:=1) (g:=t.a_18) (fd:=t.d_18) (ps:=["stock","number","offers"]) ?_ ?_ ?_ ?_ ?_ ?_
 exact G_18
 exact (hr.mono (by decide))
 exact T.m_18
 exact T.F_18.kp
 exact T.b_18
 refine zaa ?_ ?_
 exact zab 0
 refine zaa ?_ ?_
 exact zab 1
 refine zaa ?_ ?_
 refine zdg ?_
 exact zad
 exact zad
 exact zad
theorem zqO:(["number","stock"]:List Str).Nodup:=by decide +kernel
theorem sc_13:zar ["stock"] ["stock"] (zaf s_13):=⟨rfl,rfl,rfl,by decide +kernel,rfl,by decide +kernel,by decide +kernel⟩
theorem ok_13 (T:Tx K mg t):zbZ P w K mg base (CXE P w) 5 t.a_13 t.d_13 ["stock"] (spE K 1 F_13):=by
 have G_15:=ok_15 (P:=P) (w:=w) (base:=base) T
 have G_14:=ok_14 (P:=P) (w:=w) (base:=base) T
 refine zl7 (k:=4) (G:=G_13) (N:=["stock"]) (ps:=["stock"]) (st:=s_13) T.F_13 sc_13 fun cdv A outer s H E hr=> ?_
 refine zak ?_ ?_
 refine zjF ?_
 refine zjr (k:=4) (g:=t.a_15) (fd:=t.d_15) (ps:=["stock"]) ?_ ?_ ?_ ?_ ?_ ?_ ?_
 exact G_15
 exact zmt
 exact (hr.mono (by decide))
 exact T.m_15
 exact T.F_15.kp
 exact T.b_15
 refine zaa ?_ ?_
 exact zab 0
 exact zad
 refine zas ?_
 refine zbn ?_
 refine zn9 (N:=["number","stock"]) ?_ ?_ ?_ ?_ ?_ ?_ ?_
 exact rfl
 exact (BOk.of (Xn:=(zaf s_13).names) (XN:=["stock"]) rfl rfl rfl (by decide +kernel))
 exact (zat.name (i:=0) rfl)
 refine zes ?_ ?_
 exact T.n_range
 refine zaa ?_ ?_
 refine zaT (id:="len") ?_ ?_ ?_ ?_
 exact za9
 exact zc1
 exact T.n_len
 refine zaa ?_ ?_
 refine zcZ ?_ ?_
 exact zab 0
 exact zam
 exact zad
 exact zad
 intro _ _ _
 exact zan 0 zqO
 intro _ _ _
 refine zcY ?_
 refine zfV ?_
 refine zjv (k:=4) (g:=t.a_14) (fd:=t.d_14) (ps:=["stock","number"]) ?_ ?_ ?_ ?_ ?_ ?_
 exact G_14
 exact (hr.mono (by decide))
 exact T.m_14
 exact T.F_14.kp
 exact T.b_14
 refine zaa ?_ ?_
 exact zab 1
 refine zaa ?_ ?_
 exact zab 0
 exact zad
 intro _ _ _
 exact zab 0
theorem nd_29:(["stock","e"]:List Str).Nodup:=by decide +kernel
theorem sc_29:zar ["stock","e"] ["stock"] (zaf s_29):=⟨rfl,rfl,rfl,by decide +kernel,rfl,by decide +kernel,by decide +kernel⟩
theorem ok_29 (T:Tx K mg t):zbZ P w K mg base CX0 6 t.a_29 t.d_29 ["stock"] (zcx K 1 F_29):=by
 have G_23:=ok_23 (P:=P) (w:=w) (base:=base) T
 have G_13:=ok_13 (P:=P) (w:=w) (base:=base) T
 refine zcC (k:=5) (G:=G_29) (N:=["stock","e"]) (ps:=["stock"]) (st:=s_29) T.F_29 sc_29 fun cdv A outer s H E hr=> ?_
 refine zas ?_
 refine zoA (CE:=t.a_0) (pe:="e") (k:=1) (fdk:=t.d_23) (fk:=t.a_23) 1 ?_ ?_ ?_ ?_ ?_ ?_ ?_ ?_ ?_ ?_
 exact zpa
 exact nd_29
 exact T.g_0
 exact T.x_exc
 exact G_23
 exact T.b_23
 exact T.m_23
 exact T.F_23.kp
 exact (zcl.of (hr.mono (by decide)))
 intro pn xe E' hx
 refine zas ?_
 refine zbn ?_
 refine zjr (k:=5) (g:=t.a_13) (fd:=t.d_13) (ps:=["stock"]) ?_ ?_ ?_ ?_ ?_ ?_ ?_
 exact G_13
 exact hx
 exact (hr.mono (by decide))
 exact T.m_13
 exact T.F_13.kp
 exact T.b_13
 refine zaa ?_ ?_
 exact zab 0
 exact zad
theorem sc_22:zar ["thing"] ["thing"] (zaf s_22):=⟨rfl,rfl,rfl,by decide +kernel,rfl,by decide +kernel,by decide +kernel⟩
theorem ok_22 (T:Tx K mg t):zbZ P w K mg base CX0 1 t.a_22 t.d_22 ["thing"] (zcx K 1 F_22):=by
 refine zcC (k:=0) (G:=G_22) (N:=["thing"]) (ps:=["thing"]) (st:=s_22) T.F_22 sc_22 fun cdv A outer s H E hr=> ?_
 refine zas ?_
 refine zbn ?_
 refine zrc ?_ ?_
 refine zmp ?_ ?_ ?_ ?_ ?_
 exact zmC
 exact zl4
 exact T.n_isinstance
 exact T.n_int
 exact zab 0
 refine zqI ?_
 refine zoR ?_
 refine zmp ?_ ?_ ?_ ?_ ?_
 exact zlw
 exact zmW
 exact T.n_isinstance
 exact T.n_bool
 exact zab 0
theorem nd_26:(["box","stock","many","offers","gone","left"]:List Str).Nodup:=by decide +kernel
theorem zpc:(["things","price","gone"]:List Str).Nodup:=by decide +kernel
theorem zrx:(["thing","gone"]:List Str).Nodup:=by decide +kernel
theorem zoq:(["offer"]:List Str).Nodup:=by decide +kernel
theorem sc_26:zar ["box","stock","many","offers","gone","left"] ["box","stock"] (zaf s_26):=⟨rfl,rfl,rfl,by decide +kernel,rfl,by decide +kernel,by decide +kernel⟩
theorem ok_26 (T:Tx K mg t):zbZ P w K mg base CX0 2 t.a_26 t.d_26 ["box","stock"] (zcx K 2 F_26):=by
 have G_21:=ok_21 (P:=P) (w:=w) (base:=base) T
 refine zcC (k:=1) (G:=G_26) (N:=["box","stock","many","offers","gone","left"]) (ps:=["box","stock"]) (st:=s_26) T.F_26 sc_26 fun cdv A outer s H E hr=> ?_
 refine zak ?_ ?_
 refine zkR ?_ ?_
 exact zab 1
 refine zeI ?_ ?_
 exact rfl
 refine zaZ ?_ ?_
 exact zan 2 nd_26
 refine zaZ ?_ ?_
 exact zan 3 nd_26
 exact zdh
 refine zak ?_ ?_
 refine zbb 4 ?_ ?_
 exact nd_26
 refine zaK (k:=1) (g:=t.a_21) (fd:=t.d_21) (ps:=["box","many"]) ?_ ?_ ?_ ?_ ?_ ?_
 exact G_21
 exact (hr.mono (by decide))
 exact T.m_21
 exact T.F_21.kp
 exact T.b_21
 refine zaa ?_ ?_
 exact zab 0
 refine zaa ?_ ?_
 exact zab 2
 exact zad
 refine zak ?_ ?_
 refine zel 5 (N:=["things","price","gone"]) ?_ ?_ ?_ ?_ ?_ ?_ ?_ ?_
 exact rfl
 exact nd_26
 exact (BOk.of (Xn:=(zaf s_26).names) (XN:=["box","stock","many","offers","gone","left"]) rfl rfl rfl (by decide +kernel))
 exact (zat.tup (zaO.cons (i:=0) rfl (zaO.cons (i:=1) rfl zaO.nil)))
 refine zc9 ?_
 exact zab 3
 intro _ _ _
 refine zeI ?_ ?_
 exact rfl
 refine zaZ ?_ ?_
 exact zan 0 zpc
 refine zaZ ?_ ?_
 exact zan 1 zpc
 exact zdh
 intro _ _ _
 exact zcX
 intro _ _ _
 refine zdg ?_
 refine zaa ?_ ?_
 refine zbq (T:="tuple") ?_ ?_ ?_ ?_
 exact zaR
 exact zbL
 exact T.n_tuple
 refine zaa ?_ ?_
 refine zcg (N:=["thing","gone"]) ?_ ?_ ?_ ?_ ?_ ?_ ?_
 exact rfl
 exact (BOk.of (N:=["thing","gone"]) (src:=[none,some 2]) rfl rfl rfl (by rfl))
 exact (zat.name (i:=0) rfl)
 refine zc9 ?_
 exact zab 0
 intro _ _ _
 exact zan 0 zrx
 intro _ _ _
 refine zcY ?_
 refine zbm ?_ ?_ ?_
 exact (zi6 (zgB hr))
 exact zab 0
 exact zab 1
 intro _ _ _
 exact zab 0
 exact zad
 refine zaa ?_ ?_
 exact zab 1
 exact zad
 refine zas ?_
 refine zbn ?_
 refine zdg ?_
 refine zaa ?_ ?_
 exact zab 2
 refine zaa ?_ ?_
 refine zbq (T:="tuple") ?_ ?_ ?_ ?_
 exact zaR
 exact zbL
 exact T.n_tuple
 refine zaa ?_ ?_
 refine zcg (N:=["offer"]) ?_ ?_ ?_ ?_ ?_ ?_ ?_
 exact rfl
 exact (BOk.of (Xn:=(zaf s_26).names) (XN:=["box","stock","many","offers","gone","left"]) rfl rfl rfl (by decide +kernel))
 exact (zat.name (i:=0) rfl)
 refine zc9 ?_
 exact zab 5
 intro _ _ _
 exact zan 0 zoq
 intro _ _ _
 refine zcY ?_
 refine zbm ?_ ?_ ?_
 exact (zi6 (zgB hr))
 refine zcZ ?_ ?_
 exact zab 0
 exact zam
 refine zdg ?_
 exact zad
 intro _ _ _
 exact zab 0
 exact zad
 exact zad
theorem nd_27:(["stock","lot","found","offer"]:List Str).Nodup:=by decide +kernel
theorem zo6:(["thing","found"]:List Str).Nodup:=by decide +kernel
theorem sc_27:zar ["stock","lot","found","offer"] ["stock","lot"] (zaf s_27):=⟨rfl,rfl,rfl,by decide +kernel,rfl,by decide +kernel,by decide +kernel⟩
theorem ok_27 (T:Tx K mg t):zbZ P w K mg base CX0 1 t.a_27 t.d_27 ["stock","lot"] (zcx K 2 F_27):=by
 refine zcC (k:=0) (G:=G_27) (N:=["stock","lot","found","offer"]) (ps:=["stock","lot"]) (st:=s_27) T.F_27 sc_27 fun cdv A outer s H E hr=> ?_
 refine zak ?_ ?_
 refine zbb 2 ?_ ?_
 exact nd_27
 refine zdH ?_
 exact zad
 refine zak ?_ ?_
 refine zgT ?_ ?_ ?_ ?_ ?_
 exact rfl
 exact PassesOwn.never
 refine zc9 ?_
 exact zab 1
 exact zan 3 nd_27
 refine zas ?_
 refine zbb 2 ?_ ?_
 exact nd_27
 refine zbH ?_ ?_ ?_
 exact zaE
 exact zab 2
 refine zcg (N:=["thing","found"]) ?_ ?_ ?_ ?_ ?_ ?_ ?_
 exact rfl
 exact (BOk.of (Xn:=(zaf s_27).names) (XN:=["stock","lot","found","offer"]) rfl rfl rfl (by decide +kernel))
 exact (zat.name (i:=0) rfl)
 refine zc9 ?_
 refine zcZ ?_ ?_
 refine zcZ ?_ ?_
 refine zcZ ?_ ?_
 exact zab 0
 exact zam
 exact zab 3
 exact zam
 intro _ _ _
 exact zan 0 zo6
 intro _ _ _
 refine zcY ?_
 refine zbm ?_ ?_ ?_
 exact (zf3 (zgB hr))
 exact zab 0
 exact zab 1
 intro _ _ _
 exact zab 0
 refine zas ?_
 refine zbn ?_
 refine zbq (T:="tuple") ?_ ?_ ?_ ?_
 exact zaR
 exact zbL
 exact T.n_tuple
 refine zaa ?_ ?_
 refine zaT (id:="sorted") ?_ ?_ ?_ ?_
 exact (zdz rfl)
 exact zea
 exact T.n_sorted
 refine zaa ?_ ?_
 exact zab 2
 exact zad
 exact zad
theorem nd_30:(["script","k","box","stock","covers","due","turn","found","holed"]:List Str).Nodup:=by decide +kernel
theorem zql:(["offer","covers"]:List Str).Nodup:=by decide +kernel
theorem zpZ:(["lot","offer"]:List Str).Nodup:=by decide +kernel
theorem zoP:(["one"]:List Str).Nodup:=by decide +kernel
theorem sc_30:zar ["script","k","box","stock","covers","due","turn","found","holed"] ["script"] (zaf s_30):=⟨rfl,rfl,rfl,by decide +kernel,rfl,by decide +kernel,by decide +kernel⟩
theorem ok_30 (T:Tx K mg t):zbZ P w K mg base CX0 7 t.a_30 t.d_30 ["script"] (zcx K 1 F_30):=by
 have G_20:=ok_20 (P:=P) (w:=w) (base:=base) T
 have G_25:=ok_25 (P:=P) (w:=w) (base:=base) T
 have G_21:=ok_21 (P:=P) (w:=w) (base:=base) T
 have G_28:=ok_28 (P:=P) (w:=w) (base:=base) T
 have G_29:=ok_29 (P:=P) (w:=w) (base:=base) T
 have G_22:=ok_22 (P:=P) (w:=w) (base:=base) T
 have G_26:=ok_26 (P:=P) (w:=w) (base:=base) T
 have G_27:=ok_27 (P:=P) (w:=w) (base:=base) T
 refine zcC (k:=6) (G:=G_30) (N:=["script","k","box","stock","covers","due","turn","found","holed"]) (ps:=["script"]) (st:=s_30) T.F_30 sc_30 fun cdv A outer s H E hr=> ?_
 refine zak ?_ ?_
 refine zgT ?_ ?_ ?_ ?_ ?_
 exact rfl
 exact PassesOwn.never
 refine zes ?_ ?_
 exact T.n_range
 refine zaa ?_ ?_
 refine zaT (id:="max") ?_ ?_ ?_ ?_
 exact (zig rfl)
 exact zpg
 exact T.n_max
 refine zaa ?_ ?_
 exact zam
 refine zaa ?_ ?_
 refine zaT (id:="min") ?_ ?_ ?_ ?_
 exact (zh5 rfl)
 exact zoF
 exact T.n_min
 refine zaa ?_ ?_
 refine zaT (id:="len") ?_ ?_ ?_ ?_
 exact za9
 exact zc1
 exact T.n_len
 refine zaa ?_ ?_
 exact zab 0
 exact zad
 refine zaa ?_ ?_
 exact zam
 exact zad
 exact zad
 exact zad
 exact zan 1 nd_30
 refine zak ?_ ?_
 refine zbb 2 ?_ ?_
 exact nd_30
 refine zaK (k:=2) (g:=t.a_20) (fd:=t.d_20) (ps:=["script","k"]) ?_ ?_ ?_ ?_ ?_ ?_
 exact G_20
 exact (hr.mono (by decide))
 exact T.m_20
 exact T.F_20.kp
 exact T.b_20
 refine zaa ?_ ?_
 exact zab 0
 refine zaa ?_ ?_
 exact zab 1
 exact zad
 refine zak ?_ ?_
 refine zbb 3 ?_ ?_
 exact nd_30
 refine zaK (k:=3) (g:=t.a_25) (fd:=t.d_25) (ps:=["box","most","lots"]) ?_ ?_ ?_ ?_ ?_ ?_
 exact G_25
 exact (hr.mono (by decide))
 exact T.m_25
 exact T.F_25.kp
 exact T.b_25
 refine zaa ?_ ?_
 exact zab 2
 refine zaa ?_ ?_
 exact zam
 refine zaa ?_ ?_
 refine zcZ ?_ ?_
 refine zdH ?_
 refine zaa ?_ ?_
 exact zam
 refine zaa ?_ ?_
 exact zam
 exact zad
 refine zaK (k:=1) (g:=t.a_21) (fd:=t.d_21) (ps:=["box","many"]) ?_ ?_ ?_ ?_ ?_ ?_
 exact G_21
 exact (hr.mono (by decide))
 exact T.m_21
 exact T.F_21.kp
 exact T.b_21
 refine zaa ?_ ?_
 exact zab 2
 refine zaa ?_ ?_
 exact zam
 exact zad
 exact zad
 refine zak ?_ ?_
 refine zbb 4 ?_ ?_
 exact nd_30
 refine zaK (k:=1) (g:=t.a_28) (fd:=t.d_28) (ps:=["stock"]) ?_ ?_ ?_ ?_ ?_ ?_
 exact G_28
 exact (hr.mono (by decide))
 exact T.m_28
 exact T.F_28.kp
 exact T.b_28
 refine zaa ?_ ?_
 exact zab 3
 exact zad
 refine zak ?_ ?_
 refine zel 5 (N:=["offer","covers"]) ?_ ?_ ?_ ?_ ?_ ?_ ?_ ?_
 exact rfl
 exact nd_30
 exact (BOk.of (Xn:=(zaf s_30).names) (XN:=["script","k","box","stock","covers","due","turn","found","holed"]) rfl rfl rfl (by decide +kernel))
 exact (zat.name (i:=0) rfl)
 refine zes ?_ ?_
 exact T.n_range
 refine zaa ?_ ?_
 refine zaT (id:="len") ?_ ?_ ?_ ?_
 exact za9
 exact zc1
 exact T.n_len
 refine zaa ?_ ?_
 refine zcZ ?_ ?_
 exact zab 3
 exact zam
 exact zad
 exact zad
 intro _ _ _
 exact zan 0 zql
 intro _ _ _
 refine zcY ?_
 refine zbm ?_ ?_ ?_
 exact (zlQ (zgB hr))
 refine zcg (N:=["lot","offer"]) ?_ ?_ ?_ ?_ ?_ ?_ ?_
 exact rfl
 exact (BOk.of (N:=["lot","offer"]) (src:=[none,some 0]) rfl rfl rfl (by rfl))
 exact (zat.name (i:=0) rfl)
 refine zc9 ?_
 exact zab 1
 intro _ _ _
 exact zan 0 zpZ
 intro _ _ _
 refine zcY ?_
 refine zbm ?_ ?_ ?_
 exact (zf3 (zgB hr))
 exact zab 1
 exact zab 0
 intro _ _ _
 exact zab 0
 refine zdH ?_
 exact zad
 intro _ _ _
 exact zab 0
 refine zak ?_ ?_
 refine zgT ?_ ?_ ?_ ?_ ?_
 exact rfl
 exact PassesOwn.never
 refine zes ?_ ?_
 exact T.n_range
 refine zaa ?_ ?_
 exact zam
 exact zad
 exact zan 6 nd_30
 refine zak ?_ ?_
 refine zbb 7 ?_ ?_
 exact nd_30
 refine zaK (k:=6) (g:=t.a_29) (fd:=t.d_29) (ps:=["stock"]) ?_ ?_ ?_ ?_ ?_ ?_
 exact G_29
 exact (hr.mono (by decide))
 exact T.m_29
 exact T.F_29.kp
 exact T.b_29
 refine zaa ?_ ?_
 exact zab 3
 exact zad
 refine zak ?_ ?_
 refine zlF ?_ ?_ ?_
 refine zgw ?_
 refine znp ?_ ?_
 refine zhm ?_
 refine zfV ?_
 refine zmp ?_ ?_ ?_ ?_ ?_
 exact zls
 exact zmD
 exact T.n_isinstance
 exact T.n_list
 exact zab 7
 refine znp ?_ ?_
 refine zhm ?_
 refine zfV ?_
 refine zaT (id:="all") ?_ ?_ ?_ ?_
 exact (zio rfl)
 exact zoB
 exact T.n_all
 refine zaa ?_ ?_
 refine znt (N:=["one"]) ?_ ?_ ?_ ?_ ?_ ?_
 exact (BOk.of (Xn:=(zaf s_30).names) (XN:=["script","k","box","stock","covers","due","turn","found","holed"]) rfl rfl rfl (by decide +kernel))
 exact (zat.name (i:=0) rfl)
 exact zab 7
 intro _ _ _
 exact zan 0 zoP
 intro _ _ _
 exact zcX
 intro _ _ _
 refine zaK (k:=1) (g:=t.a_22) (fd:=t.d_22) (ps:=["thing"]) ?_ ?_ ?_ ?_ ?_ ?_
 exact G_22
 exact (hr.mono (by decide))
 exact T.m_22
 exact T.F_22.kp
 exact T.b_22
 refine zaa ?_ ?_
 exact zab 0
 exact zad
 exact zad
 refine zlX ?_
 refine zbm ?_ ?_ ?_
 exact (zmn (zgB hr))
 exact zab 7
 exact zab 5
 refine zas ?_
 refine zbn ?_
 exact zq8
 exact zdD
 refine zas ?_
 refine zjF ?_
 refine zk1 ?_ ?_
 exact zab 7
 exact zam
 refine zak ?_ ?_
 refine zbb 8 ?_ ?_
 exact nd_30
 refine zaK (k:=2) (g:=t.a_26) (fd:=t.d_26) (ps:=["box","stock"]) ?_ ?_ ?_ ?_ ?_ ?_
 exact G_26
 exact (hr.mono (by decide))
 exact T.m_26
 exact T.F_26.kp
 exact T.b_26
 refine zaa ?_ ?_
 exact zab 2
 refine zaa ?_ ?_
 exact zab 3
 exact zad
 refine zas ?_
 refine zlF ?_ ?_ ?_
 refine zgw ?_
 refine zpx ?_ ?_
 refine zbm ?_ ?_ ?_
 exact zlT
 refine zaT (id:="len") ?_ ?_ ?_ ?_
 exact za9
 exact zc1
 exact T.n_len
 refine zaa ?_ ?_
 refine zaK (k:=1) (g:=t.a_27) (fd:=t.d_27) (ps:=["stock","lot"]) ?_ ?_ ?_ ?_ ?_ ?_
 exact G_27
 exact (hr.mono (by decide))
 exact T.m_27
 exact T.F_27.kp
 exact T.b_27
 refine zaa ?_ ?_
 exact zab 8
 refine zaa ?_ ?_
 refine zjM ?_ ?_ ?_ ?_
 exact rfl
 exact T.n_list
 exact T.n_range
 refine zaT (id:="len") ?_ ?_ ?_ ?_
 exact za9
 exact zc1
 exact T.n_len
 refine zaa ?_ ?_
 refine zcZ ?_ ?_
 exact zab 8
 exact zam
 exact zad
 exact zad
 exact zad
 refine zcZ ?_ ?_
 exact zab 8
 exact zam
 refine znQ ?_
 refine zbm ?_ ?_ ?_
 exact (zmn (zgB hr))
 refine zaK (k:=6) (g:=t.a_29) (fd:=t.d_29) (ps:=["stock"]) ?_ ?_ ?_ ?_ ?_ ?_
 exact G_29
 exact (hr.mono (by decide))
 exact T.m_29
 exact T.F_29.kp
 exact T.b_29
 refine zaa ?_ ?_
 exact zab 8
 exact zad
 exact zdd
 refine zas ?_
 refine zbn ?_
 exact zq8
 exact zdD
 refine zas ?_
 refine zbn ?_
 exact zq8
end
end K03
namespace L3
open PySem PySem.Spec PyProof.Rows L2 LT
section
theorem zeN {n:Nat} (h:n<=16000000):fits n=pure ():=by
 unfold fits
 rw [qa4 (qaS h (by decide))]
theorem zbj {α β:Type} {p:α->Bool} {g:α->β}: ∀ xs:List α,xs.filterMap (fun x=>if p x=true then some (g x) else none)=(xs.filter p).map g
 | []=>rfl
 | x::r=>by
  rw [qat,List.filter_cons,zbj r]
  cases p x<;>simp
theorem zbt {α:Type} {g':α->D} {fi:FA} {g:D->Sd->M Sd} {tc:FT} {te:FE} {src:List (Option Nat)} {sd:Sd} {xs:List α} {k:α->Option D} (hi:fi sd=pure (xs.map g')) (hl:xs.length<=16000000) (hf: ∀ x∈xs,zaH g tc te (zae src sd) (g' x)=pure (k x)):zaG fi g tc te src sd=pure (.lst (xs.filterMap k)):=by
 unfold zaG
 rw [hi]
 simp only [pure_bind]
 rw [zeN (by rw [qaH];exact hl)]
 simp only [pure_bind]
 have: ∀ {ys:List α},(∀ x∈ys,zaH g tc te (zae src sd) (g' x)=pure (k x))->za1 (zaH g tc te (zae src sd)) (ys.map g')=pure (ys.filterMap k):=by
  intro ys
  induction ys with
  | nil=>intro _;rfl
  | cons x r ih=>
   intro hf
   rw [qaM,za1,hf x qau,ih fun y hy=>hf y (qan _ hy)]
   simp only [pure_bind]
   cases e:k x<;>simp [qat,e]
 rw [this hf]
 simp only [pure_bind]
noncomputable def lk:Nat->List (List Int)
 | 0=>[[]]
 | r+1=>lk r++(lk r).map fun ls=>ls++[(r:Int)]
theorem zgc: ∀ r,(lk r).length=2^r
 | 0=>rfl
 | r+1=>by rw [lk,qav,qaH,zgc r,Nat.pow_succ];omega
theorem zf8: ∀ (r:Nat) (ls:List Int),ls∈lk r↔ls.Pairwise (· < ·)/\ ∀ y∈ls,0<=y/\y<(r:Int)
 | 0,ls=>by
  simp only [lk,List.mem_singleton]
  constructor
  ·rintro rfl
   exact ⟨List.Pairwise.nil,fun y hy=>by cases hy⟩
  ·rintro ⟨_,h⟩
   cases ls with
   | nil=>rfl
   | cons y _=>have:=h y qau;omega
 | r+1,ls=>by
  rw [lk,qaK,zf8 r,qaU]
  constructor
  ·rintro (⟨h1,h2⟩ | ⟨ks,hk,rfl⟩)
   ·exact ⟨h1,fun y hy=>by have:=h2 y hy;omega⟩
   ·obtain ⟨h1,h2⟩:=(zf8 r ks).mp hk
    refine ⟨qaq.mpr ⟨h1,List.pairwise_singleton _ _,fun a ha b hb=> ?_⟩,fun y hy=> ?_⟩
    ·rw [List.mem_singleton.mp hb]
     exact (h2 a ha).2
    ·rcases qaK.mp hy with z | z
     ·have:=h2 y z;omega
     ·rw [List.mem_singleton.mp z];omega
  ·rintro ⟨h1,h2⟩
   by_cases hl:(r:Int)∈ls
   ·right
    obtain ⟨as,bs,rfl⟩:=List.append_of_mem hl
    obtain ⟨p1,p2,p3⟩:=qaq.mp h1
    have hb:bs=[]:=by
     cases bs with
     | nil=>rfl
     | cons b _=>
      have a1:=(qay.mp p2).1 b qau
      have a2:=h2 b (by simp)
      omega
    subst hb
    refine ⟨as,(zf8 r as).mpr ⟨p1,fun y hy=> ?_⟩,rfl⟩
    have a1:=p3 y hy (r:Int) qau
    have a2:=h2 y (by simp [hy])
    omega
   ·left
    refine ⟨h1,fun y hy=> ?_⟩
    have:=h2 y hy
    have hne:y≠(r:Int):=fun e=>hl (e▸hy)
    omega
end
section
noncomputable def mS (ts:List Int):Nat:=(ts.map fun t=>2^t.toNat).sum
theorem zlD (ts:List Int) (t:Int):mS (ts++[t])=2^t.toNat+mS ts:=by
 unfold mS
 rw [List.map_append,List.sum_append]
 simp
 omega
theorem zpN: ∀ (n:Nat) (ts:List Int),ts.length=n->ts.Pairwise (· < ·)->(∀ y∈ts,0<=y)-> ∀ k:Nat,(∀ y∈ts,y<(k:Int))->mS ts<2^k
 | 0,ts,hl,_,_,k,_=>by
  rw [List.length_eq_zero_iff.mp hl]
  exact Nat.two_pow_pos k
 | n+1,ts,hl,hp,h0,k,hk=>by
  obtain ⟨r,t,rfl⟩: ∃ r t,ts=r++[t]:=by
   rcases List.eq_nil_or_concat ts with z | ⟨r,t,z⟩
   ·subst z;cases hl
   ·exact ⟨r,t,by rw [z,List.concat_eq_append]⟩
  obtain ⟨p1,_,p3⟩:=qaq.mp hp
  have t0:=h0 t (by simp)
  have tk:=hk t (by simp)
  have ih:=zpN n r (by simpa using hl) p1 (fun y hy=>h0 y (by simp [hy])) t.toNat (fun y hy=>by have:=p3 y hy t (by simp);omega)
  rw [zlD]
  have:2^(t.toNat+1)<=2^k:=Nat.pow_le_pow_right (by decide) (by omega)
  rw [Nat.pow_succ] at this
  omega
theorem zma: ∀ (n:Nat) (ts:List Int),ts.length=n->ts.Pairwise (· < ·)->(∀ y∈ts,0<=y)-> ∀ i:Nat,(mS ts).testBit i=ts.any (· == (i:Int))
 | 0,ts,hl,_,_,i=>by
  rw [List.length_eq_zero_iff.mp hl]
  exact Nat.zero_testBit i
 | n+1,ts,hl,hp,h0,i=>by
  obtain ⟨r,t,rfl⟩: ∃ r t,ts=r++[t]:=by
   rcases List.eq_nil_or_concat ts with z | ⟨r,t,z⟩
   ·subst z;cases hl
   ·exact ⟨r,t,by rw [z,List.concat_eq_append]⟩
  obtain ⟨p1,_,p3⟩:=qaq.mp hp
  have t0:=h0 t (by simp)
  have hr: ∀ y∈r,0<=y:=fun y hy=>h0 y (by simp [hy])
  have ih:=zma n r (by simpa using hl) p1 hr i
  have lt:=zpN n r (by simpa using hl) p1 hr t.toNat (fun y hy=>by have:=p3 y hy t (by simp);omega)
  have e:=Nat.two_pow_add_eq_or_of_lt lt 1
  rw [Nat.mul_one] at e
  rw [zlD,e,Nat.testBit_or,Nat.testBit_two_pow,ih,List.any_append,Bool.or_comm]
  congr 1
  simp only [List.any_cons,List.any_nil,Bool.or_false]
  rw [Bool.eq_iff_iff,qaD,beq_iff_eq]
  omega
noncomputable def zmx (os:List (List Int×Int)) (ls:List Int):Nat:=ls.foldl (fun h x=>h ||| mS (os.getD x.toNat ([],0)).1) 0
theorem zhs (os:List (List Int×Int)) (ls:List Int) (x:Int):zmx os (ls++[x])=zmx os ls ||| mS (os.getD x.toNat ([],0)).1:=by
 unfold zmx
 rw [List.foldl_append]
 rfl
end
section
theorem zp4 (a b:Nat):Builtin.bitOr (a:Int) (b:Int)=((a ||| b:Nat):Int):=by
 unfold Builtin.bitOr Builtin.bitAnd Builtin.bitNot
 have h1:decide (0<= -(a:Int) - 1)=false:=by simp;omega
 have h2:decide (0<= -(b:Int) - 1)=false:=by simp;omega
 rw [h1,h2]
 simp only
 have e1:(-(-(a:Int) - 1) - 1).toNat=a:=by omega
 have e2:(-(-(b:Int) - 1) - 1).toNat=b:=by omega
 rw [e1,e2]
 omega
noncomputable def lD (os:List (List Int×Int)) (ls:List Int):D:= .tup [tI ls,.int (zmx os ls:Int)]
end
section
theorem zeK: ∀ xs:List Int,zbI (xs.map D.int)=some xs
 | []=>rfl
 | x::r=>by rw [qaM,zbI,zeK r];rfl
theorem zfD: ∀ lss:List (List Int),(∀ ls∈lss,ls≠[])->zfK ziW (lss.map tI)=some lss
 | [],_=>rfl
 | ls::r,h=>by
  have h1:ziW (tI ls)=some ls:=by
   have:=h ls qau
   cases ls with
   | nil=>exact absurd rfl this
   | cons x xs=>
    unfold ziW tI
    simp only [qaM]
    rw [show D.int x::xs.map D.int=(x::xs).map D.int from rfl,zeK]
  rw [qaM,zfK,h1,zfD r fun y hy=>h y (qan _ hy)]
  rfl
theorem zh4 (lss:List (List Int)) (h: ∀ ls∈lss,ls≠[]):zhK [.lst (lss.map tI)]=pure (.lst ((TS.zf2 HT.zci lss).map tI)):=by
 unfold zhK zjp zkD zkc
 simp only [pure_bind,zfD lss h,zek]
 rfl
end
section
theorem zme {n:Nat} {ds:List D} {h:Hh} {P:Unit->Hh->Prop} (e:h[n]? = some (.lst ds)) (q:P () h):wp (chk n ds) h P:=by
 refine ⟨(),h,?_,q⟩
 unfold chk
 rw [qa4 e]
theorem zhE {α:Type} {g':α->D} {n:Nat} {full:List D} {F:D->M (Option D)} {k:α->Option D} {h:Hh} (e:h[n]? = some (.lst full)): ∀ (ys:List α) {P:List D->Hh->Prop},(∀ x∈ys,F (g' x)=pure (k x))->P (ys.filterMap k) h->wp (zbz n full F (ys.map g')) h P
 | [],P,_,q=>by
  rw [List.map_nil,zbz,zah]
  refine zme e ?_
  rw [zaj]
  exact q
 | y::r,P,hf,q=>by
  rw [qaM,zbz,zah]
  refine zme e ?_
  rw [hf y qau,pure_bind,zah]
  refine zhE e r (fun x hx=>hf x (qan _ hx)) ?_
  rw [zaj]
  rw [qat] at q
  cases hk:k y with
  | none=>rw [hk] at q;exact q
  | some z=>rw [hk] at q;exact q
theorem zkI {α:Type} {g':α->D} {f:FE} {g:D->Sd->M Sd} {tc:FT} {te:FE} {src:List (Option Nat)} {sd:Sd} {n:Nat} {h:Hh} {xs:List α} {k:α->Option D} {P:D->Hh->Prop} (hf:f sd=pure (.cel n)) (e:h[n]? = some (.lst (xs.map g'))) (hl:xs.length<=16000000)
  (ht: ∀ x∈xs,zaH g tc te (zae src sd) (g' x)=pure (k x)) (q:P (.lst (xs.filterMap k)) h):wp (zfs f g tc te src sd) h P:=by
 unfold zfs
 rw [hf,pure_bind]
 simp only [zah,zcs e]
 rw [zeN (by rw [qaH];exact hl),zaj]
 refine zhE e xs ht ?_
 rw [zaj]
 exact q
end
section
theorem zfv {α:Type} {g':α->D} {f:D->M (Option D)} {k:α->Option D}: ∀ {xs:List α},(∀ x∈xs,Ev (f (g' x)) (k x))->Ev (za1 f (xs.map g')) (xs.filterMap k)
 | [],_=> .of rfl
 | x::r,hf=>by
  rw [qaM,za1]
  refine Ev.bind (hf x qau) (Ev.bind (zfv fun y hy=>hf y (qan _ hy)) (.of ?_))
  cases e:k x<;>simp [qat,e]
theorem zjf {α:Type} {g':α->D} {fi:FA} {g:D->Sd->M Sd} {tc:FT} {te:FE} {src:List (Option Nat)} {sd:Sd} {xs:List α} {k:α->Option D} (hi:fi sd=pure (xs.map g')) (hl:xs.length<=1000) (hf: ∀ x∈xs,Ev (zaH g tc te (zae src sd) (g' x)) (k x)) {h:Hh} {P:D->Hh->Prop}
  (q: ∀ h',Gro h h'->P (.cel h'.length) (h'++[.lst (xs.filterMap k)])):wp (zfm fi g tc te src sd) h P:=by
 unfold zfm
 rw [hi]
 simp only [pure_bind]
 rw [zaq (by rw [qaH];exact hl)]
 simp only [pure_bind]
 rw [zah]
 refine (zfv hf).wp fun h' g'=> ?_
 rw [zf9]
 exact q h' g'
end
section
theorem zec {h:Hh}: ∀ xs:List Int,zeX h (xs.map D.int)=some (xs.map PyData.int)
 | []=>by rw [List.map_nil,zeX];rfl
 | x::r=>by
  rw [qaM,zeX,zec r,pdH]
  rfl
theorem zk5 {h:Hh} (xs:List Int):pdH h (.lst (xs.map D.int))=some (.list (xs.map PyData.int)):=by
 rw [pdH,zec]
 rfl
theorem zkY (xs ys:List Int):zeC (.list (xs.map PyData.int)) (.list (ys.map PyData.int))=true:=by
 unfold zeC
 simp [PyData.canLay0,zaS,PyData.depth,zbr]
theorem zp3 {n:Nat} {h:Hh} {ds:List D} {P:D->Hh->Prop} (e:h[n]? = some (.lst ds)) (k:P (.bl true) h):wp (zkb "list" (.cel n)) h P:=by
 have eb:isB "list" "list"=true:=by decide
 show wp (do let t<-(do let _<-zag n;pure "list");pure (.bl (isB "list" t)):M D) h P
 simp only [bind_assoc,pure_bind,zah,zcs e,zaj,eb]
 exact k
theorem zkw {h:Hh} {n:Nat} {xs:List Int} {P:D->Hh->Prop} (e:h[n]? = some (.lst (xs.map D.int))) (k:P (.bl false) h):wp (zlG (.cel n) (.lst (xs.map D.int))) h P:=by
 refine ⟨.bl false,h,?_,k⟩
 unfold zlG
 have a:pdH h (.cel n)=some (.list (xs.map PyData.int)):=by
  rw [pdH,e]
  show (pdL (xs.map D.int)).map PyData.list=_
  rw [zb7]
  rfl
 rw [a,zk5]
 simp only [zkY,if_true,PyData.eqv,zhB,beq_self_eq_true,Bool.not_true]
theorem zmQ {h:Hh} {x:Str} {P:D->Hh->Prop} (hx:PyData.strOk x=true) (k:P (.bl false) h):wp (zlG (.str x) (.str x)) h P:=by
 refine ⟨.bl false,h,?_,k⟩
 unfold zlG
 have c:zeC (.str x) (.str x)=true:=by unfold zeC;simp [PyData.canLay0,PyData.depth,hx]
 simp only [pdH,c,if_true,PyData.eqv,beq_self_eq_true,Bool.not_true]
theorem zf0 {h:Hh}: ∀ lss:List (List Int),zeX h (lss.map tI)=some (lss.map fun ls=>PyData.tuple (ls.map PyData.int))
 | []=>by rw [List.map_nil,zeX];rfl
 | x::r=>by
  rw [qaM,zeX,zf0 r,tI,pdH,zec]
  rfl
theorem zhy: ∀ lss:List (List Int),PyData.canLayAll0 (lss.map fun ls=>PyData.tuple (ls.map PyData.int))=true
 | []=>rfl
 | o::r=>by simp [PyData.canLayAll0,PyData.canLay0,zaS,zhy r]
theorem zkM (lss:List (List Int)):zlU (.lst (lss.map tI)) (.lst [])=pure (.bl lss.isEmpty):=by
 funext h
 unfold zlU
 have a1:pdH h (.lst (lss.map tI))=some (.list (lss.map fun ls=>PyData.tuple (ls.map PyData.int))):=by rw [pdH,zf0];rfl
 have a2:pdH h (.lst [])=some (.list []):=by rw [pdH,zeX];rfl
 have c:zeC (.list (lss.map fun ls=>PyData.tuple (ls.map PyData.int))) (.list [])=true:=by
  unfold zeC
  simp [PyData.canLay0,PyData.canLayAll0,zhy,PyData.depth,PyData.depthAll]
 rw [a1,a2]
 simp only [c,if_true]
 cases lss<;>rfl
theorem znJ {names:List String} {gb:FS} {F:List D->M D} {sd:Sd} {h:Hh} {P:Out->Hh->Prop} (x:wp (gb sd) h P):wp (zgP names gb F sd) h P:=by
 obtain ⟨o,h',e,p⟩:=x
 refine ⟨o,h',?_,p⟩
 unfold zgP
 rw [e]
theorem zf6 (k:Int) (xs:List Int):zfE (.int k) (.tup (xs.map D.int))=pure (.bl (!xs.any (· == k))):=by
 show zkf true (.int k) (.tup (xs.map D.int))=_
 unfold zkf
 simp only [pd]
 rw [zb7]
 have c:ziH (.int k) (xs.map PyData.int)=true:=by
  unfold ziH
  simp [PyData.canLay0,zaS,PyData.depth,zbr]
 simp only [c,if_true,zdL]
theorem zk0 (os:List (List Int×Int)):zgH os ((List.range os.length).map fun (k:Nat)=>(k:Int))=os:=by
 unfold zgH
 rw [qaT]
 refine List.ext_getElem (by simp) fun i h1 h2=> ?_
 simp [List.getD,h2]
theorem zpQ:PyData.strOk "! full"=true:=by decide +kernel
end
end L3
namespace K03
open PySem PySem.Spec PyProof.Rows L2 L3 LT
set_option hygiene false in
local macro_rules | `(tactic| ac_nf0)=> `(tactic| simp only [zaV,zch,zhl,zco,zj9,zht,zn7,zfM,za8,zaz,zaJ,zbO,zmw,zeu,zaw,zaD,pure_bind,bind_assoc,zfb,zqo,zeS,zq6,List.set,zd5,zoU,zqi,zot,zrg,zlK,zqB,zmd,zqK,zeF,zfF,zeT,zdA,znZ,zbf,zna,zcF,zqz,zlz,zjx,zo0,zek,zo4,zlO,zqZ,zpp,zoZ,zfP,zcE,ziV,zhO,zjO,zfU,zon,zah,zaj,zf9,qaE,qaJ,qaH,Nat.zero_add,Nat.reduceAdd,Nat.reduceLeDiff,zaq,zbY,tI,zi7,znM,zkm,zpL,zkq,zh3,zk3,zrf,znT,zm9,zph,zqC,zrK,zq0,zl9,zlW,zqj,zrj,znG,zr9,if_true,Bool.not_true,Bool.not_false,qax,if_false,qav,List.cons_append,List.nil_append,zqb,zpm])
variable {m:Int} {os:List (List Int×Int)} {i:Nat}
theorem zj5 {d:D} (k:kn d=true):F_22 [d]=pure (.bl (isI d)):=by
 rw [d_22]
 simp only [G_22,zco,zlK,zmw,zaw,pure_bind,bind_assoc,zmu k,zpd k,zdA,zmd]
 cases d<;>simp [isI]
noncomputable def zfO (m:Int):D->Bool
 | .tup [.tup ts,.int p]=>zcR m 0 ts && decide (0<(ts.length:Int)) && decide (0<p)
 | _=>false
theorem zbl {h:Hh} {b:Nat} {m:Int} {P:D->Hh->Prop} (q:Bx b h) (h0:0<m) (h1:m<2^64) (k: ∀ t h',0<=t->t<m->Ext b h h'->P (.int t) h'):wp (F_21 [.cel b,.int m]) h P:=by
 obtain ⟨z,e⟩:=id q
 rw [d_21]
 simp only [G_21,zaV,zch,zbO,zaw,zaD,pure_bind,bind_assoc,zeu,zld,zah,zcs e,zjx,zek,zaj,zdW h0,zfb,List.set,zhl,zhb h0 h1,zi1,zmo]
 have e2:ixN ([D.int z]:List D).length 0=some 0:=rfl
 simp only [zah,zcs e,e2,zek,zaj,zhq,zfb,zco,zaD,zaw,zeS,List.set]
 exact k _ _ (Int.emod_nonneg _ (by omega)) (Int.emod_lt_of_pos _ h0) q.set
theorem zm7 {ns:List Int} {k:Int} (h0:0<=k): ∃ c:Int,F_19 [.scr (ns.map D.int),.int k]=pure (.int c):=by
 rw [d_19]
 simp only [G_19,zaV,zj9,zd5,zaD,zaw,pure_bind,bind_assoc,za8,zaz,zaJ,zmc,zrX,zdA]
 by_cases hk:k<((ns.map D.int).length:Int)
 ·have hk':k.toNat<ns.length:=by simp at hk;omega
  have ea:atI (ns.map D.int) k=some (.int ns[k.toNat]):=by
   have:=zdR (xs:=ns.map D.int) (j:=k.toNat) (v:= .int ns[k.toNat]) (by simp [hk'])
   rw [<- this]
   congr 1
   omega
  simp only [hk,decide_true,if_true,zco,zbO,zaw,zaD,pure_bind,zrM,ea,zek,zqo,zeS]
  exact ⟨_,rfl⟩
 ·simp only [hk,decide_false,qax,if_false,zfM,pure_bind,zfb,zco,zbO,zeu,zaD,zaw,zf7 (show (-1000000000000000:Int)<6151 by decide) (show (6151:Int)<1000000000000000 by decide),zcF,zeS]
  exact ⟨_,rfl⟩
theorem zhg {s0 s2:Option D} {k:Int} (k0:0<=k) (k5:k<5): ∀ (ds:List D) (n mx:Int) (x5:Option D),(∀ d∈ds, ∃ j:Int,d= .int j/\0<=j/\j<24)->0<=mx->mx<2147483647->
  ∃ (n' mx':Int) (x5':Option D),za3 (fun x sd=>do let sd1<-zaU 5 x sd;zcp sd1) ds [s0,some (.int k),s2,some (.int n),some (.int mx),x5]=pure (.nx [s0,some (.int k),s2,some (.int n'),some (.int mx'),x5'])
 | [],n,mx,x5,_,_,_=>⟨n,mx,x5,rfl⟩
 | d::r,n,mx,x5,hd,m0,m1=>by
  obtain ⟨j,rfl,j0,j1⟩:=hd _ qau
  obtain ⟨n',mx',x5',ih⟩:=zhg k0 k5 r (n*2147483647+(mx*48271+7*j*j+11*k+1) % 2147483647) ((mx*48271+7*j*j+11*k+1) % 2147483647) (some (.int j)) (fun y hy=>hd y (qan _ hy)) (Int.emod_nonneg _ (by decide)) (Int.emod_lt_of_pos _ (by decide))
  refine ⟨n',mx',x5',?_⟩
  rw [zcn, <-ih]
  simp only [zcp,zcE,List.set,pure_bind,bind_assoc,zaV,zch,zbO,zaD,zaw,zeu,zf7 (show -1000000000000000<mx by omega) (show mx<1000000000000000 by omega),zf7 (show (-1000000000000000:Int)<7 by decide) (show (7:Int)<1000000000000000 by decide),
    zlN (i:=7*j) (show -1000000000000000<j by omega) (show j<1000000000000000 by omega),zf7 (show (-1000000000000000:Int)<11 by decide) (show (11:Int)<1000000000000000 by decide),zcF,zdW (show (0:Int)<2147483647 by decide),zfb,zlN (i:=n) (show (-1000000000000000:Int)<2147483647 by decide) (show (2147483647:Int)<1000000000000000 by decide)]
theorem zoM {h:Hh} {ns:List Int} {k:Int} {P:D->Hh->Prop} (k0:0<=k) (k5:k<5) (q: ∀ z:Int,P (.cel h.length) (h++[.lst [.int z]])):wp (F_20 [.scr (ns.map D.int),.int k]) h P:=by
 obtain ⟨c,ec⟩:=zm7 (ns:=ns) k0
 rw [d_20]
 simp only [G_20,zaV,zch,za8,zaz,zaJ,zaw,zaD,pure_bind,bind_assoc,zbf,ec,zfb,List.set,zj9,zd5,zbO,zeu,zdW (show (0:Int)<2 by decide),zoW,zdA]
 by_cases hc:(c % 2==0)=true
 ·simp only [hc,if_true,zco,zeT,zaz,zaJ,zbO,zaD,zaw,zeu,pure_bind,bind_assoc,zhb (show (0:Int)<2 by decide) (show (2:Int)<2^64 by decide),qaE,qaJ,zaq (show 0+1<=1000 by decide),zah,zf9,zaj,zqo,zeS]
  exact q _
 ·obtain ⟨n',mx',x5',el⟩:=zhg (s0:=some (.scr (ns.map D.int))) (s2:=some (.int c)) k0 k5 (zcM 0 24) 0 (c % 2147483647) none (fun d hd=>by
    obtain ⟨i,e,i0,i1⟩:=ze2 hd
    exact ⟨i,e,i0,by omega⟩) (Int.emod_nonneg _ (by decide)) (Int.emod_lt_of_pos _ (by decide))
  have er:ziE [.int 24]=pure (zcM 0 24):=zbR (by decide) (by decide)
  simp only [hc,if_false,zfM,pure_bind,zfb,zaV,zch,zeu,List.set,zbO,zaD,zaw,zdW (show (0:Int)<2147483647 by decide),zht,zfP,zaz,zaJ,er,bind_assoc,el,zco,zeT,qaE,qaJ,zaq (show 0+1<=1000 by decide),zah,zf9,zaj,zeS,qax]
  exact q _
theorem zfo {a b:Nat} (h:a<=b):(2:Int)^a<=2^b:=by
 have:(2:Nat)^a<=2^b:=Nat.pow_le_pow_right (by decide) h
 exact_mod_cast this
theorem zg1 {bits:Int}: ∀ (m:Nat),0<bits->bits<2^m-> ∃ j:Nat,j<m/\(bits / 2^j) % 2=1
 | 0,h0,h1=>by simp at h1;omega
 | m+1,h0,h1=>by
  by_cases c:bits<2^m
  ·obtain ⟨j,a,b⟩:=zg1 m h0 c
   exact ⟨j,by omega,b⟩
  ·refine ⟨m,by omega,?_⟩
   have hp:(0:Int)<2^m:=Int.pow_pos (by decide)
   have e:bits / 2^m=1:=by
    have h2:(2:Int)^(m+1)=2*2^m:=by rw [Int.pow_succ];omega
    have a1:1<=bits / 2^m:=(Int.le_ediv_iff_mul_le hp).mpr (by omega)
    have a2:bits / 2^m<2:=(Int.ediv_lt_iff_lt_mul hp).mpr (by omega)
    omega
   rw [e]
   decide
noncomputable def zoc (bits:Int) (d:D):Option D:=match d with
 | .int j=>if ((bits / 2^j.toNat) % 2==1)=true then some d else none
 | _=>none
theorem zfC (bits:Int): ∀ xs:List Int,(xs.map D.int).filterMap (zoc bits)=(xs.filter fun j=>(bits / 2^j.toNat) % 2==1).map D.int
 | []=>rfl
 | x::r=>by
  rw [qaM,qat,List.filter_cons,zfC bits r]
  unfold zoc
  dsimp only
  split<;>simp_all
theorem ziw {bits:Int} {m:Nat} (h0:0<bits) (h1:bits<2^m):zcR m 0 ((zcM 0 m).filterMap (zoc bits))=true/\(zcM 0 m).filterMap (zoc bits)≠[]:=by
 rw [zca,zfC]
 constructor
 ·rw [zbh]
  constructor
  ·refine List.Pairwise.filter _ ?_
   rw [List.pairwise_map]
   exact List.pairwise_lt_range.imp fun h=>by omega
  ·intro x hx
   obtain ⟨k,hk,e⟩:=qaU.mp (List.mem_filter.mp hx).1
   have:=List.mem_range.mp hk
   omega
 ·obtain ⟨j,a,b⟩:=zg1 m h0 h1
  intro z
  have:((j:Int))∈((List.range m).map fun (k:Nat)=>(k:Int)).filter fun j=>(bits / 2^j.toNat) % 2==1:=by
   refine List.mem_filter.mpr ⟨qaU.mpr ⟨j,List.mem_range.mpr a,rfl⟩,?_⟩
   rw [qaB,b]
   rfl
  have z':=List.map_eq_nil_iff.mp z
  rw [z'] at this
  cases this
theorem ziA {h:Hh} {b:Nat} {m:Int} {P:D->Hh->Prop} (q:Bx b h) (h0:1<=m) (h1:m<=10) (k: ∀ ts h',zcR m 0 ts=true->ts≠[]->Ext b h h'->P (.tup ts) h'):wp (F_24 [.cel b,.int m]) h P:=by
 rw [d_24]
 simp only [G_24,zaV,zch,za8,zaz,zaJ,zaw,zaD,pure_bind,bind_assoc,zbf,zeu,zah]
 refine zbl q (by decide) (by decide) fun way h2 w0 w1 x2=> ?_
 simp only [zaj,zah,zfb,List.set,zaV,zj9,zd5,zaD,zaw,pure_bind,bind_assoc,zeu,zoW,zdA]
 by_cases hw:(way==0)=true
 ·rw [qa4 hw]
  simp only [zaV,zch,zbO,zeu,zaD,zaw,pure_bind,bind_assoc,za8,zaz,zaJ,zgG (show 0<=m by omega) (show m<=1000 by omega),znG,zbf,zah]
  have hp:(2:Int)<=2^m.toNat:=by
   have:(2:Int)^1<=2^m.toNat:=zfo (by omega)
   simpa using this
  have hp':(2:Int)^m.toNat<=2^10:=zfo (by omega)
  refine zbl x2.1 (by omega) (by omega) fun t h3 t0 t1 x3=> ?_
  have ed:zaG (zgS (zac (zai 1) zav)) (zaU 0) zbB zbC [none,some 3] [some (.cel b),some (.int m),some (.int way),some (.int (1+t)),none,none]=pure (.lst ((zcM 0 m.toNat).filterMap (zoc (1+t)))):=by
   refine zb0 (by simp [zbR (show 0<=m by omega) (show m<1000 by omega)]) (by rw [zff];omega) fun x hx=> ?_
   obtain ⟨i,rfl,i0,i1⟩:=ze2 hx
   have eb:zae [none,some 3] [some (.cel b),some (.int m),some (.int way),some (.int (1+t)),none,none]=[none,some (D.int (1+t))]:=rfl
   rw [eb]
   simp only [zaH,zcE,List.set,pure_bind,zbB,zd5,zbO,zaD,zaw,zeu,zng i0,zrA,zmy,zoW,zdA,zbC,zoc]
   split<;>rfl
  simp only [zaj,zah,zfb,List.set,zcF,pure_bind,zco,za8,zaz,zaJ,bind_assoc,ed,zfU,zqo,zeS]
  have hm:((m.toNat:Nat):Int)=m:=Int.toNat_of_nonneg (by omega)
  have:=ziw (bits:=1+t) (m:=m.toNat) (by omega) (by omega)
  rw [hm] at this
  exact k _ _ this.1 this.2 (x2.trans x3)
 ·rw [qa5 hw]
  have hw': ¬way=0:=by simpa using hw
  simp only [zfM,zaj,zfb,zaV,zhl,zeF,zaz,zaJ,za8,zaw,zaD,pure_bind,bind_assoc,zbf,zah]
  refine zbl x2.1 (by omega) (by omega) fun first h3 f0 f1 x3=> ?_
  simp only [zbO,zfF,zaz,zaJ,zeu,za8,zaw,zaD,pure_bind,bind_assoc,zbf,zah,zaj]
  refine zbl x3.1 (by decide) (by decide) fun t h4 t0 t1 x4=> ?_
  simp only [zcF,pure_bind,zaj,zah,qaE,qaJ,zaq (show 0+1+1<=1000 by decide),zaD,zaw,znG,zlz,bind_assoc]
  obtain ⟨step,es,s0,s1⟩: ∃ s:Int,atI [D.int 1,D.int (1+t)] (way - 1)=some (.int s)/\1<=s/\s<=3:=by
   by_cases c:way=1
   ·subst c
    exact ⟨1,rfl,by decide,by decide⟩
   ·have c:way=2:=by omega
    subst c
    exact ⟨1+t,rfl,by omega,by omega⟩
  simp only [es,zek,zaj,zah,ziV,zhO,zcE,List.set,pure_bind,zjO,zfb,zco,za8,zaz,zaJ,zmw,bind_assoc]
  unfold zaG
  simp only [zfP,zaz,zaJ,zbO,zeu,za8,zaw,zaD,pure_bind,bind_assoc,zbf,zah]
  refine zbl x4.1 (by decide) (by decide) fun u h5 u0 u1 x5=> ?_
  have eb:zae [none,some 4,some 5,some 1] [some (.cel b),some (.int m),some (.int way),none,some (.int first),some (.int step)]=[none,some (D.int first),some (.int step),some (.int m)]:=rfl
  have hl:za1 (zaH (zaU 0) (fun _=>pure true) zbx [none,some (D.int first),some (.int step),some (.int m)]) (zcM 0 (1+u).toNat)=pure ((((List.range (1+u).toNat).map fun (k:Nat)=>(first+step*(k:Int)) % m)).map D.int):=by
   rw [zca]
   rw [zdp (k:=fun d=>match d with | .int j=>some (.int ((first+step*j) % m)) | _=>none)]
   ·congr 1
    rw [List.filterMap_map]
    simp [Function.comp_def]
   ·intro x hx
    obtain ⟨j,_,rfl⟩:=qaU.mp hx
    simp only [zaH,zcE,List.set,pure_bind,if_true,zbx,zbO,zaD,zaw,zf7 (show -1000000000000000<step by omega) (show step<1000000000000000 by omega),zcF,zdW (show 0<m by omega)]
  simp only [zcF,pure_bind,zbR (show 0<=1+u by omega) (show 1+u<1000 by omega),zff,zaq (show (1+u).toNat<=1000 by omega),eb,hl,zaj,zah]
  generalize hy:((List.range (1+u).toNat).map fun (k:Nat)=>(first+step*(k:Int)) % m)=ys
  have yl:ys.length=(1+u).toNat:=by rw [<- hy];simp
  have ym: ∀ y∈ys,0<=y/\y<m:=fun y h=>by
   rw [<- hy] at h
   obtain ⟨k,_,rfl⟩:=qaU.mp h
   exact ⟨Int.emod_nonneg _ (by omega),Int.emod_lt_of_pos _ (by omega)⟩
  simp only [zf1 (show ys.length<64 by omega),zaj,zfU,zeS,pure_bind,zah]
  refine k _ _ (zbh.mpr ⟨zdm ys,fun x hx=>ym x (zb4.mp hx)⟩) (fun z=> ?_) (((x2.trans x3).trans x4).trans x5)
  have z':=List.map_eq_nil_iff.mp z
  have hy0: ∃ y,y∈ys:=List.exists_mem_of_length_pos (by omega)
  obtain ⟨y,hy0⟩:=hy0
  have:=zb4.mpr hy0
  rw [z'] at this
  cases this
def Row (m:Int) (h:Hh) (d:D):Prop:= ∃ (n:Nat) (xs:List Int) (p:Int),d= .cel n/\h[n]? = some (.lst [.tup (xs.map D.int),.int p])/\zcR m 0 (xs.map D.int)=true/\xs≠[]/\0<p
theorem Row.ext {m:Int} {b:Nat} {h h':Hh} {d:D} (q:Bx b h) (x:Ext b h h') (r:Row m h d):Row m h' d:=by
 obtain ⟨n,ts,p,e,e2,r⟩:=r
 have hn:n≠b:=fun z=>by
  subst z
  obtain ⟨y,e3⟩:=q
  rw [e3] at e2
  cases e2
 exact ⟨n,ts,p,e,x.2 n _ hn e2,r⟩
theorem zi8 {b:Nat} {m far:Int} (m0:1<=m) (m1:m<=10) (f0:0<far) (f1:far<2^64): ∀ (ds:List D) {h:Hh} {P:List D->Hh->Prop},Bx b h->(∀ rs h',Ext b h h'->rs.length=ds.length->(∀ r∈rs,Row m h' r)->P rs h')->
  wp (za1 (zaH (zaU 0) (fun _=>pure true) zcb [none,some (.cel b),some (.int m),some (.int far)]) ds) h P
 | [],h,P,q,k=>by
  rw [za1,zaj]
  exact k [] h (Ext.refl q) rfl fun r hr=>by cases hr
 | d::r,h,P,q,k=>by
  rw [za1]
  simp only [zah,zaH,zcE,List.set,pure_bind,if_true,zcb,zeT,zaz,zaJ,za8,zaD,zaw,bind_assoc,zbf]
  refine ziA q m0 m1 fun ts h2 hr hne x2=> ?_
  simp only [zah,zbO,zeu,za8,zaz,zaJ,zaD,zaw,pure_bind,bind_assoc,zbf]
  refine zbl x2.1 f0 f1 fun t h3 t0 t1 x3=> ?_
  simp only [zcF,pure_bind,zaj,zah,qaE,qaJ,zaq (show 0+1+1<=1000 by decide),zf9]
  have x4:=x3.1.push (c:= .lst [.tup ts,.int (1+t)])
  obtain ⟨xs,rfl⟩:=zgM (zeW hr)
  refine zi8 m0 m1 f0 f1 r x4.1 fun rs h' x5 hl hr'=> ?_
  refine k (.cel h3.length::rs) h' (((x2.trans x3).trans x4).trans x5) (by simp [hl]) fun y hy=> ?_
  rcases qaP.mp hy with rfl | hy
  ·exact Row.ext x4.1 x5 ⟨h3.length,xs,1+t,rfl,by simp,hr,fun z=>hne (by rw [z];rfl),by omega⟩
  ·exact hr' y hy
noncomputable def zlH (h:Hh) (i:Int) (d:D):Bool:=match d with
 | .cel n=>match h[n]? with
  | some (.lst (.tup ts::_))=>match zbI ts with
   | some xs=>xs.any (· == i)
   | none=>false
  | _=>false
 | _=>false
noncomputable def zij (h:Hh) (d:D):D:=match d with
 | .cel n=>match h[n]? with
  | some (.lst ds)=> .tup ds
  | _=> .non
 | _=> .non
theorem zlM {m:Int} {h:Hh}: ∀ {rs:List D},(∀ r∈rs,Row m h r)-> ∃ ps,zeX h rs=some ps/\PyData.canLayAll0 ps=true/\ps.length=rs.length
 | [],_=>⟨[],rfl,rfl,rfl⟩
 | d::r,hr=>by
  obtain ⟨n,xs,p,rfl,e,_⟩:=hr d qau
  obtain ⟨ps,e1,e2,e3⟩:=zlM fun y hy=>hr y (qan _ hy)
  refine ⟨.list [.tuple (xs.map .int),.int p]::ps,?_,?_,by simp [e3]⟩
  ·simp only [zeX,pdH,e,pdL,pd,zb7,Option.map,e1]
  ·simp [PyData.canLayAll0,PyData.canLay0,zaS,e2]
theorem zmF {m:Int} {h:Hh} {rs:List D} {P:D->Hh->Prop} (hr: ∀ r∈rs,Row m h r) (q:P (.bl rs.isEmpty) h):wp (zlU (.lst rs) (.lst [])) h P:=by
 obtain ⟨ps,e1,e2,e3⟩:=zlM hr
 refine ⟨.bl rs.isEmpty,h,?_,q⟩
 unfold zlU
 have a1:pdH h (.lst rs)=some (.list ps):=by simp only [pdH,e1,Option.map]
 have a2:pdH h (.lst [])=some (.list []):=by simp only [pdH,zeX,Option.map]
 rw [a1,a2]
 have c:zeC (.list ps) (.list [])=true:=by
  unfold zeC
  simp [PyData.canLay0,PyData.canLayAll0,e2,PyData.depth,PyData.depthAll]
 simp only [c,if_true]
 cases ps with
 | nil=>
  cases rs with
  | nil=>rfl
  | cons _ _=>cases e3
 | cons _ _=>
  cases rs with
  | nil=>cases e3
  | cons _ _=>rfl
def Cov (rows:List D) (h:Hh) (j:Int):Prop:= ∃ r∈rows, ∃ (n:Nat) (xs:List Int) (p:Int),r= .cel n/\h[n]? = some (.lst [.tup (xs.map D.int),.int p])/\j∈xs
theorem Cov.ext {b:Nat} {rows:List D} {h h':Hh} {j:Int} (q:Bx b h) (x:Ext b h h') (r:Cov rows h j):Cov rows h' j:=by
 obtain ⟨d,hd,n,ts,p,e,e2,r⟩:=r
 have hn:n≠b:=fun z=>by
  subst z
  obtain ⟨y,e3⟩:=q
  rw [e3] at e2
  cases e2
 exact ⟨d,hd,n,ts,p,e,x.2 n _ hn e2,r⟩
theorem zfu {b:Nat} {m far:Int} {s1 s2:Option D} {rows:List D} (m0:1<=m) (m1:m<=10) (hne:rows≠[]) (hl:rows.length<=12): ∀ (ds:List D) (dn:List Int) {h:Hh} {x6 x7:Option D} {P:Out->Hh->Prop},Bx b h->(∀ d∈ds, ∃ i:Int,d= .int i/\0<=i/\i<m)->(∀ r∈rows,Row m h r)->(∀ j∈dn,Cov rows h j)->
  (∀ x6' x7' h',Bx b h'->(∀ r∈rows,Row m h' r)->(∀ j,j∈dn\/D.int j∈ds->Cov rows h' j)->P (.nx [some (.cel b),s1,s2,some (.int m),some (.int far),some (.lst rows),x6',x7']) h')->
  wp (za3 (fun x sd=>do let sd1<-zaU 6 x sd;za5 sd1) ds [some (.cel b),s1,s2,some (.int m),some (.int far),some (.lst rows),x6,x7]) h P
 | [],dn,h,x6,x7,P,q,_,hr,hc,k=>by
  rw [zdM,zaj]
  exact k _ _ h q hr fun j hj=>hc j (hj.elim id fun z=>by cases z)
 | d::r,dn,h,x6,x7,P,q,hd,hr,hc,k=>by
  obtain ⟨i,rfl,i0,i1⟩:=hd _ qau
  have hd':=fun y hy=>hd y (qan _ hy)
  have ih: ∀ {h:Hh} {x6 x7:Option D},Bx b h->(∀ r∈rows,Row m h r)->(∀ j∈i::dn,Cov rows h j)->wp (za3 (fun x sd=>do let sd1<-zaU 6 x sd;za5 sd1) r [some (.cel b),s1,s2,some (.int m),some (.int far),some (.lst rows),x6,x7]) h P:=fun q hr hc=>zfu m0 m1 hne hl r (i::dn) q hd' hr hc fun x6' x7' h' q' hr' hc'=>k x6' x7' h' q' hr' fun j hj=>hc' j (by
    rcases hj with hj | hj
    · exact .inl (qan _ hj)
    · rcases qaP.mp hj with z | z
      · cases z;exact .inl qau
      · exact .inr z)
  rw [zcn]
  generalize za3 (fun x sd=>do let sd1<-zaU 6 x sd;za5 sd1) r=rest at ih ⊢
  simp only [zcE,List.set,pure_bind,za5,zj9,zd5,zah]
  refine zhV (k:=fun d=>if zlH h i d=true then some d else none) (ds:=rows) (by simp) (by omega) (fun x hx=> ?_) ?_
  ·obtain ⟨n,xs,p,rfl,e,_⟩:=hr x hx
   have eb:zae [none,some 6] [some (.cel b),s1,s2,some (.int m),some (.int far),some (.lst rows),some (.int i),x7]=[none,some (D.int i)]:=rfl
   rw [eb]
   simp only [zaH,zcE,List.set,pure_bind,zc0,zd5,zaD,zaw,zbO,zeu,zld,bind_assoc,zah,zcs e,zjx,zek,zaj,zlc,zdA,zcP,zlH,e,zba]
   rw [zaA]
   split
   ·simp_all [zaj,zaw,zah]
   ·simp_all [zaj]
  ·simp only [zfF,zaJ,pure_bind,qaJ,zaq (show 0<=1000 by decide),zah,zaj]
   refine zmF (m:=m) (fun y hy=> ?_) ?_
   ·obtain ⟨z,hz,ez⟩:=List.mem_filterMap.mp hy
    split at ez
    ·cases ez;exact hr _ hz
    ·cases ez
   simp only [zdA,zaj]
   rw [zaA]
   split
   ·rename_i c
    have none_has: ∀ y∈rows,zlH h i y=false:=fun y hy=>by
     cases z:zlH h i y with
     | false=>rfl
     | true=>
      have:y∈rows.filterMap fun d=>if zlH h i d=true then some d else none:=List.mem_filterMap.mpr ⟨y,hy,by rw [z];rfl⟩
      rw [List.isEmpty_iff.mp c] at this
      cases this
    have hpos:0<rows.length:=List.length_pos_iff.mpr hne
    simp only [zaV,zch,zbO,zaD,zaw,pure_bind,bind_assoc,za8,zaz,zaJ,zlO,zbf,zah]
    refine zbl q (by omega) (by omega) fun t h2 t0 t1 x2=> ?_
    have ht:t.toNat<rows.length:=by omega
    have ea:atI rows t=some rows[t.toNat]:=by
     have:=zdR (xs:=rows) (j:=t.toNat) (v:=rows[t.toNat]) (by simp [ht])
     rw [<- this]
     congr 1
     omega
    have hrow:=hr rows[t.toNat] (List.getElem_mem ht)
    have hno:=none_has rows[t.toNat] (List.getElem_mem ht)
    have hmem:rows[t.toNat]∈rows:=List.getElem_mem ht
    generalize rows[t.toNat]=row at ea hrow hno hmem
    obtain ⟨n,xs,p,rfl,e,hrs,hx0,hp0⟩:=hrow
    have hni:i∉xs:=fun z=>by
     simp only [zlH,e,zba] at hno
     have:xs.any (· == i)=true:=List.any_eq_true.mpr ⟨i,z,by simp⟩
     rw [this] at hno
     cases hno
    have hnb:n≠b:=fun z=>by
     subst z
     obtain ⟨y,e3⟩:=q
     rw [e3] at e
     cases e
    have e2:=x2.2 n _ hnb e
    obtain ⟨hpw,hbd⟩:=zbh.mp hrs
    have hxl:(xs.length:Int)<=m:=by have:=zdJ hrs (by omega);simpa using this
    have esn:((xs.map D.int)++[D.int i])=(xs++[i]).map D.int:=by simp
    simp only [zlz,ea,zek,zaj,zfb,List.set,zhl,za8,zaz,zaJ,zbO,zaD,zaw,zeu,pure_bind,bind_assoc,zld,zah,zcs e2,zjx,zeF,qaE,qaJ,zaq (show 0+1<=1000 by decide),zl9,qaH,
      zaq (show xs.length+(0+1)<=1000 by omega),esn,zib (show (xs++[i]).length<64 by simp;omega),zfU,zi1,zmo]
    have e3:ixN (0+1+1) 0=some 0:=rfl
    simp only [zah,zcs e2,qaE,qaJ,e3,zek,zaj,zhq,List.set]
    have hlt:n<h2.length:=(qac.mp e2).1
    refine ih ?_ ?_ ?_
    ·obtain ⟨y,ey⟩:=x2.1
     exact ⟨y,by rw [qao hnb];exact ey⟩
    ·intro y hy
     obtain ⟨n',xs',p',rfl,e',r1,r2,r3⟩:=Row.ext q x2 (hr y hy)
     by_cases hnn:n'=n
     ·subst hnn
      refine ⟨n',zbi (xs++[i]),p,rfl,qai hlt,zbh.mpr ⟨zmH hpw hni,fun z hz=> ?_⟩,fun z=> ?_,hp0⟩
      ·have:=(zap (xs++[i])).mem_iff.mp hz
       rcases qaK.mp this with w | w
       ·exact hbd z w
       ·simp at w;omega
      ·have:=(zap (xs++[i])).length_eq
       rw [z] at this
       simp at this
     ·exact ⟨n',xs',p',rfl,by rw [qao (Ne.symm hnn)];exact e',r1,r2,r3⟩
    ·intro j hj
     rcases qaP.mp hj with rfl | hj
     ·exact ⟨.cel n,hmem,n,zbi (xs++[j]),p,rfl,qai hlt,(zap (xs++[j])).mem_iff.mpr (by simp)⟩
     ·obtain ⟨y,hy,n',xs',p',rfl,e',hj'⟩:=Cov.ext q x2 (hc j hj)
      by_cases hnn:n'=n
      ·subst hnn
       rw [e2] at e'
       have exs:xs=xs':=by
        have z:xs.map D.int=xs'.map D.int:=by injection (Option.some.inj e') with z;simpa using (List.cons.inj z).1
        exact (List.map_inj_right fun a b h=>by injection h).mp z
       subst exs
       exact ⟨_,hy,n',zbi (xs++[i]),p,rfl,qai hlt,(zap (xs++[i])).mem_iff.mpr (List.mem_append_left _ hj')⟩
      ·exact ⟨_,hy,n',xs',p',rfl,by rw [qao (Ne.symm hnn)];exact e',hj'⟩
   ·rename_i c
    simp only [zfM,zaj]
    refine ih q hr fun j hj=> ?_
    rcases qaP.mp hj with rfl | hj
    ·obtain ⟨y,hy⟩:=List.exists_mem_of_ne_nil (rows.filterMap fun d=>if zlH h j d=true then some d else none) (fun z=>c (by rw [z];rfl))
     obtain ⟨z,hz,ez⟩:=List.mem_filterMap.mp hy
     split at ez
     ·rename_i c2
      obtain ⟨n,xs,p,rfl,e,_⟩:=hr z hz
      simp only [zlH,e,zba] at c2
      obtain ⟨k,hk,ek⟩:=List.any_eq_true.mp c2
      exact ⟨_,hz,n,xs,p,rfl,e,(show k=j by simpa using ek)▸hk⟩
     ·cases ez
    ·exact hc j hj
theorem zmz {h:Hh} {b:Nat} {lots:Int} {P:D->Hh->Prop} (z0:1<=lots) (z1:lots<=12) (q:Bx b h) (k: ∀ (m:Int) (os:List D) h',Bx b h'->1<=m->m<=10->1<=os.length->os.length<=12->(∀ o∈os,zfO m o=true)->(∀ i:Int,0<=i->i<m-> ∃ o∈os, ∃ (xs:List Int) (p:Int),o= .tup [.tup (xs.map D.int),.int p]/\i∈xs)->P (.tup [.int m,.tup os]) h'):wp (F_25 [.cel b,.int 10,.int lots]) h P:=by
 rw [d_25]
 simp only [G_25,zaV,zch,zbO,zeu,za8,zaz,zaJ,zaw,zaD,pure_bind,bind_assoc,zbf,zah]
 refine zbl q (by decide) (by decide) fun t h2 t0 t1 x2=> ?_
 simp only [zcF,pure_bind,zaj,zfb,List.set,zaV,zch,zbO,zfF,zaz,zaJ,zeu,zm4,bind_assoc,zah,qaE,qaJ,zaq (show 0+1+1+1+1<=1000 by decide),za8,zaw,zaD,zbf]
 refine zbl x2.1 (by decide) (by decide) fun f h3 f0 f1 x3=> ?_
 obtain ⟨far,ef,g0,g1⟩: ∃ far:Int,atI [D.int 3,.int 9,.int 50,.int 1000000000000] f=some (.int far)/\0<far/\far<2^64:=by
  have:f=0\/f=1\/f=2\/f=3:=by omega
  rcases this with rfl | rfl | rfl | rfl
  ·exact ⟨3,rfl,by decide,by decide⟩
  ·exact ⟨9,rfl,by decide,by decide⟩
  ·exact ⟨50,rfl,by decide,by decide⟩
  ·exact ⟨1000000000000,rfl,by decide,by decide⟩
 simp only [zlz,ef,zek,zaj,zfb,List.set,zaV,zch,zah]
 unfold zaG
 simp only [zfP,zaz,zaJ,zbO,zeu,za8,zaw,zaD,pure_bind,bind_assoc,zbf,zah]
 refine zbl x3.1 (by omega) (by omega) fun u h4 u0 u1 x4=> ?_
 have eb:zae [none,some 0,some 3,some 4] [some (.cel b),some (.int 10),some (.int lots),some (.int (1+t)),some (.int far),none,none,none]=[none,some (D.cel b),some (.int (1+t)),some (.int far)]:=rfl
 simp only [zcF,pure_bind,zbR (show 0<=1+u by omega) (show 1+u<1000 by omega),zff,zaq (show (1+u).toNat<=1000 by omega),eb,zah,zaj]
 refine zi8 (by omega) (by omega) g0 g1 _ x4.1 fun rows h5 x5 hl hr=> ?_
 rw [zff] at hl
 simp only [zaj,zfb,List.set,zaV,zht,zfP,zaz,zaJ,zaD,zaw,pure_bind,zbR (show 0<=1+t by omega) (show 1+t<1000 by omega),zah]
 refine zfu (by omega) (by omega) (fun z=>by rw [z] at hl;simp at hl;omega) (by omega) _ [] x5.1 (fun d hd=> ?_) hr (fun j hj=>by cases hj) fun x6 x7 h6 q6 hr6 hc6=> ?_
 ·obtain ⟨i,e,i0,i1⟩:=ze2 hd
  exact ⟨i,e,i0,by omega⟩
 simp only [zfb,zco,zeF,zaz,zaJ,zaD,zaw,pure_bind,bind_assoc,za8,zah]
 have eb6:zae [none] [some (.cel b),some (.int 10),some (.int lots),some (.int (1+t)),some (.int far),some (.lst rows),x6,x7]=[none]:=rfl
 simp only [zoZ,zaD,zaw,pure_bind,zpp,zaj,zaq (show rows.length<=1000 by omega),eb6]
 refine zdk (k:=fun d=>some (zij h6 d)) (fun x hx=> ?_) ?_
 ·obtain ⟨n,xs,p,rfl,e,_⟩:=hr6 x hx
  simp only [zaH,zcE,List.set,pure_bind,if_true,zc6,zeF,zaz,zaJ,zbO,zaw,zeu,zld,bind_assoc,zah,zcs e,zjx,zo0,zek,zaj,qaE,qaJ,zaq (show 0+1+1<=1000 by decide),zij,e]
  exact ⟨trivial,trivial⟩
 ·simp only [zfU,zaj,pure_bind,qaE,qaJ,zaq (show 0+1+1<=1000 by decide),zeS,zah]
  have em:(rows.filterMap fun d=>some (zij h6 d))=rows.map (zij h6):=by simp
  rw [em]
  refine k (1+t) _ h6 q6 (by omega) (by omega) (by simp;omega) (by simp;omega) (fun o ho=> ?_) fun i i0 i1=> ?_
  rotate_left
  ·obtain ⟨r,hr',n,xs,p,rfl,e,hi⟩:=hc6 i (.inr (by rw [zca,qaU];exact ⟨i,qaU.mpr ⟨i.toNat,List.mem_range.mpr (by omega),by omega⟩,rfl⟩))
   exact ⟨_,qaU.mpr ⟨_,hr',rfl⟩,xs,p,by simp only [zij,e],hi⟩
  obtain ⟨r,hr',rfl⟩:=qaU.mp ho
  obtain ⟨n,xs,p,rfl,e,r1,r2,r3⟩:=hr6 r hr'
  have hx:0<(xs.length:Int):=by
   have:=List.length_pos_iff.mpr r2
   omega
  simp only [zij,e,zfO,r1,qaH]
  simp [hx,r3]
  exact List.length_pos_iff.mpr r2
theorem zhw {n:Nat} {s0:Option D}: ∀ (os:List (List Int×Int)) {h:Hh} {xs:List Int} {x2:Option D} {P:Out->Hh->Prop},h[n]? = some (.lst (xs.map D.int))->xs.length+(os.flatMap (·.1)).length<=1000->
  (∀ x2' h',(∀ k,k≠n->h'[k]? = h[k]?)->h'.length=h.length->h'[n]? = some (.lst ((xs++os.flatMap (·.1)).map D.int))->P (.nx [s0,some (.cel n),x2']) h')->
  wp (za3 (fun x sd=>do let sd1<-zaU 2 x sd;zaM sd1) (os.map zbY) [s0,some (.cel n),x2]) h P
 | [],h,xs,x2,P,e,_,k=>by
  rw [List.map_nil,zdM,zaj]
  exact k x2 h (fun _ _=>rfl) rfl (by simpa using e)
 | o::os,h,xs,x2,P,e,hl,k=>by
  have hln:=(qac.mp e).1
  rw [List.flatMap_cons,qav] at hl
  have ih:=fun (x2':Option D)=>zhw (s0:=s0) (n:=n) os (h:=h.set n (.lst ((xs++o.1).map D.int))) (xs:=xs++o.1) (x2:=x2') (P:=P) (qai hln) (by rw [qav];omega) fun x2'' h' h1 h2 h3=>k x2'' h' (fun j hj=>(h1 j hj).trans (qao (Ne.symm hj))) (h2.trans (qaI ..)) (by rw [h3,List.flatMap_cons,List.append_assoc])
  rw [qaM,zcn]
  generalize za3 (fun x sd=>do let sd1<-zaU 2 x sd;zaM sd1) (os.map zbY)=rest at ih ⊢
  have f:=zaq (show (xs.map D.int).length+(o.1.map D.int).length<=1000 by rw [qaH,qaH];omega)
  simp only [qaH] at f
  simp only [zaM]
  ac_nf0
  simp only [zah,zcs e,zaj,qaH,f,zhq, <-List.map_append]
  exact ih _
theorem zqf {d:D} {os:List (List Int×Int)} {m:Int} (hd:zd7 d=pure (os.map zbY)) (m0:0<=m) (m1:m<=60) (hl:(os.flatMap (·.1)).length<=1000) (b: ∀ o∈os, ∀ x∈o.1,0<=x/\x<m):Ev (F_16 [d]) (tI (zdI (os.flatMap (·.1)))):=by
 refine .of_wp fun h=> ?_
 rw [d_16]
 simp only [G_16]
 ac_nf0
 simp only [hd,zaj]
 refine zhw os (xs:=[]) (by simp) (by simpa using hl) fun x2 h' h1 h2 h3=> ?_
 ac_nf0
 have bb: ∀ x∈os.flatMap (·.1),0<=x/\x<m:=fun x hx=>by
  obtain ⟨o,ho,hx⟩:=List.mem_flatMap.mp hx
  exact b o ho x hx
 refine zfp (by simpa using h3) (zgD m0 m1 bb) (by omega) ?_
 ac_nf0
 refine ⟨trivial,⟨[.lst ((os.flatMap (·.1)).map D.int)],List.ext_getElem? fun j=> ?_⟩⟩
 by_cases hj:j=h.length
 ·subst hj
  rw [h3]
  simp
 ·rw [h1 j hj]
  by_cases hlt:j<h.length
  ·rw [qad hlt,qad hlt]
  ·rw [List.getElem?_eq_none (by simp;omega),List.getElem?_eq_none (by simp;omega)]
theorem zlg {os:List (List Int×Int)} {n:Nat} (h: ∀ o∈os,o.1.length<=n):(os.flatMap (·.1)).length<=os.length*n:=by
 induction os with
 | nil=>simp
 | cons o r ih=>
  rw [List.flatMap_cons,qav,qaE,Nat.succ_mul]
  have a1:=h o qau
  have a2:=ih fun x hx=>h x (qan _ hx)
  omega
theorem zpy (s:Stk m os) {d:D} {os':List (List Int×Int)} (hd:zd7 d=pure (os'.map zbY)) (hl:os'.length<=12) (hs: ∀ o∈os',o∈os):Ev (F_17 [zce m os,d]) (.bl (((zdI (os'.flatMap (·.1))).length:Int)==m)):=by
 have tg:=zqf hd (m:=m) (by have:=s.m0;omega) (by have:=s.m1;omega) (by have:=zlg (os:=os') (n:=10) fun o ho=>s.olen o (hs o ho);omega) fun o ho=>s.bd o (hs o ho)
 refine .of_wp fun h=> ?_
 rw [d_17]
 simp only [G_17,zce]
 ac_nf0
 refine tg.wp fun h' g=> ?_
 ac_nf0
 rw [zoW]
 ac_nf0
 exact ⟨trivial,g⟩
theorem zhe (s:Stk m os) {s1:Option D}: ∀ (ls fs:List Int) (x3:Option D),(∀ x∈ls,0<=x/\x<os.length)->fs.Nodup->(∀ x∈fs,0<=x/\x<m)->
  ∃ (gs:List Int) (x3':Option D),za3 (fun x sd=>do let sd1<-zaU 3 x sd;zcq sd1) (ls.map D.int) [some (zce m os),s1,some (.lst (fs.map D.int)),x3]=pure (.nx [some (zce m os),s1,some (.lst (gs.map D.int)),x3'])/\gs.Nodup/\(∀ x∈gs,0<=x/\x<m)/\ ∀ k,k∈gs↔k∈fs\/k∈(zgH os ls).flatMap (·.1)
 | [],fs,x3,_,hn,hb=>⟨fs,x3,rfl,hn,hb,fun k=>by simp [zgH]⟩
 | i::r,fs,x3,hl,hn,hb=>by
  have hi:=hl i qau
  have ho:os.getD i.toNat ([],0)∈os:=by
   have h1:i.toNat<os.length:=by omega
   simp [List.getD,h1]
  generalize eo:os.getD i.toNat ([],0)=o at ho
  have m0:=s.m0
  have m1:=s.m1
  have hnew:(fs++o.1.filter fun t=> !fs.any (· == t)).Nodup:=by
   rw [List.nodup_append]
   refine ⟨hn,((s.up o ho).imp fun z=>by omega).filter _,fun a ha b hb e=> ?_⟩
   subst e
   have:=(List.mem_filter.mp hb).2
   simp at this
   exact this a ha rfl
  have hbn: ∀ x∈fs++o.1.filter fun t=> !fs.any (· == t),0<=x/\x<m:=fun x hx=>(qaK.mp hx).elim (hb x) fun z=>s.bd o ho x (List.mem_filter.mp z).1
  obtain ⟨gs,y3,ih,g1,g2,g3⟩:=zhe s r (fs++o.1.filter fun t=> !fs.any (· == t)) (some (.int i)) (fun x hx=>hl x (qan _ hx)) hnew hbn
  refine ⟨gs,y3,?_,g1,g2,fun k=> ?_⟩
  ·rw [qaM,zcn, <-ih]
   have ec:zaG (iSq (cOp dIx (cOp dIx (cOp dIx (zai 0) (cK (.int 1))) (zai 3)) (cK (.int 0)))) (zaU 0) zcr zcu [none,some 2] [some (zce m os),s1,some (.lst (fs.map D.int)),some (.int i)]=pure (.lst ((o.1.filter fun t=> !fs.any (· == t)).map D.int)):=by
    rw [<- zbS (k:=fun d=>match d with | .int t=>if (!fs.any (· == t))=true then some (.int t) else none | d=>none) fun _=>rfl]
    refine zb0 ?_ (by rw [qaH];have:=s.olen o ho;omega) ?_
    ·simp only [zce]
     ac_nf0
     rw [znx hi.1 hi.2,eo]
     ac_nf0
    ·intro x hx
     obtain ⟨t,_,rfl⟩:=qaU.mp hx
     have eb:zae [none,some 2] [some (zce m os),s1,some (.lst (fs.map D.int)),some (.int i)]=[none,some (.lst (fs.map D.int))]:=rfl
     rw [eb]
     simp only [zaH,zcr,zcu]
     ac_nf0
     rw [zgY]
     ac_nf0
     split<;>rfl
   simp only [zcq]
   ac_nf0
   rw [ec]
   have f1:=zd6 (by omega) hnew hbn
   rw [qav] at f1
   have f:=zaq (show fs.length+(o.1.filter fun t=> !fs.any (· == t)).length<=1000 by omega)
   ac_nf0
   simp only [zlW,qaH,f]
   ac_nf0
   rw [List.map_append]
  ·rw [g3 k]
   have eo2:zgH os (i::r)=o::zgH os r:=by unfold zgH;rw [qaM,eo]
   rw [eo2,List.flatMap_cons,qaK,qaK,List.mem_filter]
   constructor
   ·rintro ((h | h) | h)
    ·exact .inl h
    ·exact .inr (.inl h.1)
    ·exact .inr (.inr h)
   ·rintro (h | h | h)
    ·exact .inl (.inl h)
    ·by_cases c:k∈fs
     ·exact .inl (.inl c)
     ·exact .inl (.inr ⟨h,by simp;exact fun x hx e=>c (e▸hx)⟩)
    ·exact .inr h
theorem ziz {m:Int} {o:D} (h:zfO m o=true): ∃ (xs:List Int) (p:Int),o=zbY (xs,p)/\(xs.Pairwise (· < ·)/\ ∀ x∈xs,0<=x/\x<m)/\xs≠[]/\0<p:=by
 unfold zfO at h
 split at h
 ·rename_i ts p
  simp only [qaG,qaD] at h
  obtain ⟨⟨h1,h2⟩,h3⟩:=h
  obtain ⟨xs,rfl⟩:=zgM (zeW h1)
  exact ⟨xs,p,rfl,zbh.mp h1,fun z=>by rw [z] at h2;simp at h2,h3⟩
 ·cases h
theorem zmf {m:Int} (m0:1<=m) (m1:m<=10): ∀ {ds:List D},ds.length<=12->(∀ o∈ds,zfO m o=true)-> ∃ os,ds=os.map zbY/\Stk m os
 | [],_,_=>⟨[],rfl,⟨m0,m1,by simp,by simp,by simp,by simp,by simp⟩⟩
 | d::r,hl,h=>by
  obtain ⟨os,e,s⟩:=zmf m0 m1 (ds:=r) (by simp at hl;omega) fun o ho=>h o (qan _ ho)
  obtain ⟨xs,p,e1,⟨h1,h2⟩,h3,h4⟩:=ziz (h d qau)
  have hlen:((xs,p)::os).length<=12:=by rw [e] at hl;simpa using hl
  refine ⟨(xs,p)::os,by rw [qaM,e,e1],⟨m0,m1,hlen,?_,?_,?_,?_⟩⟩
  ·intro o ho
   rcases qaP.mp ho with rfl | ho
   ·exact h1
   ·exact s.up o ho
  ·intro o ho
   rcases qaP.mp ho with rfl | ho
   ·exact h2
   ·exact s.bd o ho
  ·intro o ho
   rcases qaP.mp ho with rfl | ho
   ·exact h3
   ·exact s.ne o ho
  ·intro o ho
   rcases qaP.mp ho with rfl | ho
   ·exact h4
   ·exact s.pos o ho
theorem zko {m:Int} {os:List (List Int×Int)} (s:Stk m os) {h:Hh} {b:Nat} {P:D->Hh->Prop} (q:Bx b h) (k: ∀ os' h',Stk m os'->Ext b h h'->P (zce m os') h'):wp (F_26 [.cel b,zce m os]) h P:=by
 have m0:=s.m0
 have m1:=s.m1
 have hl:=s.len
 rw [d_26]
 simp only [G_26,zce]
 ac_nf0
 refine zbl q (by omega) (by omega) fun t h2 t0 t1 x2=> ?_
 ac_nf0
 have e1:zaG (iSq (zai 3)) (zcV 2 (zaP (zaU 0) (zaP (zaU 1) zc2))) (fun _=>pure true) zbU [none,none,some 4] [some (.cel b),some (.tup [.int m,.tup (os.map zbY)]),some (.int m),some (.tup (os.map zbY)),some (.int t),none]
   = pure (.lst ((os.map fun o=>(o.1.filter fun x=> !(x==t),o.2)).map zbY)):=by
  rw [ziq (ds:=os.map zbY) (k:=fun d=>match d with | .tup [.tup ts,p]=> .tup [.tup (ts.filter fun d=>match d with | .int x=> !(x==t) | _=>true),p] | d=>d) (by ac_nf0) (by rw [qaH];omega) ?_]
  ·rw [qaT,qaT]
   congr 2
   refine List.map_congr_left fun o _=> ?_
   simp only [Function.comp,zbY,tI]
   congr 2
   rw [List.filter_map]
   rfl
  ·intro x hx
   obtain ⟨o,ho,rfl⟩:=qaU.mp hx
   have eb:zae [none,none,some 4] [some (.cel b),some (.tup [.int m,.tup (os.map zbY)]),some (.int m),some (.tup (os.map zbY)),some (.int t),none]=[none,none,some (.int t)]:=rfl
   rw [eb]
   simp only [zaH,zbU]
   ac_nf0
   have e2:zaG (iSq (zai 0)) (zaU 0) zbP zbQ [none,some 2] [some (.tup (o.1.map D.int)),some (.int o.2),some (.int t)]=pure (.lst ((o.1.filter fun x=> !(x==t)).map D.int)):=by
    rw [<- zbS (k:=fun d=>match d with | .int x=>if (!(x==t))=true then some (.int x) else none | d=>none) fun _=>rfl]
    refine zb0 (by ac_nf0) (by rw [qaH];have:=s.olen o ho;omega) fun x hx=> ?_
    obtain ⟨i,_,rfl⟩:=qaU.mp hx
    have eb:zae [none,some 2] [some (.tup (o.1.map D.int)),some (.int o.2),some (.int t)]=[none,some (.int t)]:=rfl
    rw [eb]
    simp only [zaH,zbP,zbQ]
    ac_nf0
    rw [zsE]
    ac_nf0
    split<;>rfl
   simp only [if_true,e2]
   ac_nf0
   congr 3
   rw [List.filter_map]
   rfl
 rw [e1]
 ac_nf0
 generalize hos:(os.map fun o=>(o.1.filter fun x=> !(x==t),o.2))=os1
 have e3:zaG (iSq (zai 5)) (zaU 0) zbM zbT [none] [some (.cel b),some (.tup [.int m,.tup (os.map zbY)]),some (.int m),some (.tup (os.map zbY)),some (.int t),some (.lst (os1.map zbY))]
   = pure (.lst ((os1.filter fun o=> !o.1.isEmpty).map zbY)):=by
  have e4:(os1.map zbY).filterMap (fun d=>match d with | .tup [.tup ts,p]=>if (!ts.isEmpty)=true then some (.tup [.tup ts,p]) else none | d=>none)=(os1.filter fun o=> !o.1.isEmpty).map zbY:=by
   clear hos e1
   induction os1 with
   | nil=>rfl
   | cons o r ih=>
    rw [qaM,qat,ih,List.filter_cons]
    simp only [zbY,tI]
    obtain ⟨ts,p⟩:=o
    cases ts<;>simp [zbY,tI]
  rw [<- e4]
  refine zb0 (by ac_nf0) (by rw [qaH, <-hos,qaH];omega) fun x hx=> ?_
  obtain ⟨o,_,rfl⟩:=qaU.mp hx
  have eb: ∀ sd,zae [none] sd=[none]:=fun _=>rfl
  rw [eb]
  simp only [zaH,zbM,zbT]
  ac_nf0
  have e5:=zk9 o.1
  unfold tI at e5
  rw [e5]
  ac_nf0
  simp only [List.isEmpty_map]
  split<;>rfl
 rw [e3]
 ac_nf0
 refine k (os1.filter fun o=> !o.1.isEmpty) h2 ?_ x2
 have hm: ∀ o∈os1.filter fun o=> !o.1.isEmpty, ∃ o'∈os,o=(o'.1.filter fun x=> !(x==t),o'.2)/\o.1≠[]:=fun o ho=>by
  obtain ⟨h1,h2⟩:=List.mem_filter.mp ho
  rw [<- hos] at h1
  obtain ⟨o',h3,rfl⟩:=qaU.mp h1
  exact ⟨o',h3,rfl,by intro e;rw [e] at h2;simp at h2⟩
 refine ⟨m0,m1,?_,fun o ho=> ?_,fun o ho=> ?_,fun o ho=> ?_,fun o ho=> ?_⟩
 ·have:=List.length_filter_le (fun o:List Int×Int=> !o.1.isEmpty) os1
  rw [<- hos,qaH] at this
  rw [<- hos]
  omega
 ·obtain ⟨o',h1,rfl,_⟩:=hm o ho
  exact (s.up o' h1).filter _
 ·obtain ⟨o',h1,rfl,_⟩:=hm o ho
  exact fun x hx=>s.bd o' h1 x (List.mem_filter.mp hx).1
 ·exact (hm o ho).choose_spec.2.2
 ·obtain ⟨o',h1,rfl,_⟩:=hm o ho
  exact s.pos o' h1
theorem zof:dIx (zce m os) (.int 1)=pure (.tup (os.map zbY)):=rfl
theorem zq5:dIx (zce m os) (.int 0)=pure (.int m):=rfl
theorem zkJ (s:Stk m os) {l:Sd}:zaG (iSq (cOp dIx (zai 0) (cK (.int 1)))) (zcV 2 (zaP (zaU 0) (zaP (zaU 1) zc2))) (fun _=>pure true) zbD [none,none] (some (zce m os)::l)=pure (.lst (os.map fun o=> .int (mS o.1:Int))):=by
 have ol:=s.len
 rw [show os.map (fun o=>D.int (mS o.1:Int))=os.filterMap fun o=>some (.int (mS o.1:Int)) by simp]
 refine zbt (g':=zbY) ?_ (by omega) fun o ho=> ?_
 ·ac_nf0
  rw [zof]
  ac_nf0
 ·have eb:zae [none,none] (some (zce m os)::l)=[none,none]:=rfl
  have hol:=s.olen o ho
  have hbd:=s.bd o ho
  have m1:=s.m1
  have ei:zaG (iSq (zai 0)) (zaU 0) (fun _=>pure true) zbE [none] [some (.tup (o.1.map D.int)),some (.int o.2)]=pure (.lst ((o.1.map fun t=>((2^t.toNat:Nat):Int)).map D.int)):=by
   rw [qaT,show o.1.map (D.int∘fun t=>((2^t.toNat:Nat):Int))=o.1.filterMap fun t=>some (.int ((2^t.toNat:Nat):Int)) by simp]
   refine zbt (g':=D.int) rfl (by omega) fun t ht=> ?_
   have eb:zae [none] [some (.tup (o.1.map D.int)),some (.int o.2)]=[none]:=rfl
   have:=hbd t ht
   rw [eb]
   simp only [zaH,zbE]
   ac_nf0
   rw [zgG (by omega) (by omega)]
   ac_nf0
   simp
  have es:(o.1.map fun t=>((2^t.toNat:Nat):Int)).sum=(mS o.1:Int):=by
   unfold mS
   generalize o.1=ts
   induction ts with
   | nil=>rfl
   | cons t r ih=>rw [qaM,List.sum_cons,ih,qaM,List.sum_cons];simp
  rw [eb]
  simp only [zaH,zbD]
  ac_nf0
  rw [ei]
  ac_nf0
  rw [zn6,es]
  ac_nf0
theorem zjw (s:Stk m os) {k:Nat} (hk:k<os.length) {s0 s1:Option D}:zaG (iSq (zai 3)) (zcV 2 (zaP (zaU 0) (zaP (zaU 1) zc2))) (fun _=>pure true) zbw [none,none,some 4,some 2] [s0,s1,some (.lst (os.map fun o=> .int (mS o.1:Int))),some (.lst ((lk k).map (lD os))),some (.int (k:Int))]=pure (.lst (((lk k).map fun ls=>ls++[(k:Int)]).map (lD os))):=by
 have ol:=s.len
 have hl:(lk k).length<=4096:=by
  rw [zgc]
  exact Nat.pow_le_pow_right (n:=2) (by decide) (show k<=12 by omega)
 rw [qaT,show (lk k).map (lD os∘fun ls=>ls++[(k:Int)])=(lk k).filterMap fun ls=>some (lD os (ls++[(k:Int)])) by simp]
 refine zbt (g':=lD os) rfl (by omega) fun ls hls=> ?_
 have hlen:ls.length<=1000 - 1:=by
  obtain ⟨h1,h2⟩:=(zf8 k ls).mp hls
  have:=zit (m:=(k:Int)) (by omega) h1 h2
  omega
 have eb:zae [none,none,some 4,some 2] [s0,s1,some (.lst (os.map fun o=> .int (mS o.1:Int))),some (.lst ((lk k).map (lD os))),some (.int (k:Int))]=[none,none,some (.int (k:Int)),some (.lst (os.map fun o=> .int (mS o.1:Int)))]:=rfl
 have ea:atI (os.map fun o=>D.int (mS o.1:Int)) (k:Int)=some (.int (mS (os.getD k ([],0)).1:Int)):=zdR (by simp [List.getD,hk])
 have eo: ∀ a b:Nat,dOr (.int (a:Int)) (.int (b:Int))=pure (.int ((a ||| b:Nat):Int)):=fun a b=>by
  rw [<- zp4]
  rfl
 have f:=zaq (show ls.length+1<=1000 by omega)
 rw [eb]
 simp only [zaH,zbw]
 unfold lD
 rw [zhs,qaB]
 ac_nf0
 rw [f]
 ac_nf0
 rw [ea]
 ac_nf0
 rw [eo]
 ac_nf0
 simp
theorem zfL (s:Stk m os) {s0 s1:Option D}: ∀ (j k:Nat) (x4:Option D),k+j=os.length-> ∃ y4,za3 (fun x sd=>do let sd1<-zaU 4 x sd;za4 sd1) ((List.range' k j).map fun (i:Nat)=> .int (i:Int)) [s0,s1,some (.lst (os.map fun o=> .int (mS o.1:Int))),some (.lst ((lk k).map (lD os))),x4]=pure (.nx [s0,s1,some (.lst (os.map fun o=> .int (mS o.1:Int))),some (.lst ((lk os.length).map (lD os))),y4])
 | 0,k,x4,h=>⟨x4,by rw [show k=os.length by omega];rfl⟩
 | j+1,k,x4,h=>by
  have ol:=s.len
  have hl:(lk k).length<=4096:=by
   rw [zgc]
   exact Nat.pow_le_pow_right (n:=2) (by decide) (show k<=12 by omega)
  obtain ⟨y4,ih⟩:=zfL s (s0:=s0) (s1:=s1) j (k+1) (some (.int (k:Int))) (by omega)
  refine ⟨y4,?_⟩
  have el:=zjw s (k:=k) (by omega) (s0:=s0) (s1:=s1)
  have f:=zeN (show (lk k).length+(lk k).length<=16000000 by omega)
  rw [List.range'_succ,qaM,zcn, <-ih]
  generalize za3 (fun x sd=>do let sd1<-zaU 4 x sd;za4 sd1) ((List.range' (k+1) j).map fun (i:Nat)=> .int (i:Int))=rest
  simp only [za4]
  ac_nf0
  rw [el]
  ac_nf0
  rw [f]
  ac_nf0
  rw [lk,List.map_append]
noncomputable def zm2 (m:Int) (os:List (List Int×Int)) (ls:List Int):Bool:=(zmx os ls:Int)==2^m.toNat - 1
noncomputable def zgW (m:Int) (os:List (List Int×Int)):List (List Int):=TS.zf2 HT.zci ((lk os.length).filter (zm2 m os))
theorem znc (s:Stk m os) {s1 s2 s4:Option D}:zaG (iSq (zai 3)) (zcV 2 (zaP (zaU 0) (zaP (zaU 1) zc2))) zbA zbv [none,none,some 0] [some (zce m os),s1,s2,some (.lst ((lk os.length).map (lD os))),s4]=pure (.lst (((lk os.length).filter (zm2 m os)).map tI)):=by
 have ol:=s.len
 have m0:=s.m0
 have m1:=s.m1
 have hl:(lk os.length).length<=4096:=by
  rw [zgc]
  exact Nat.pow_le_pow_right (n:=2) (by decide) ol
 rw [<- zbj]
 refine zbt (g':=lD os) rfl (by omega) fun ls hls=> ?_
 have eb:zae [none,none,some 0] [some (zce m os),s1,s2,some (.lst ((lk os.length).map (lD os))),s4]=[none,none,some (zce m os)]:=rfl
 rw [eb]
 simp only [zaH,zbA,zbv]
 unfold lD zm2
 ac_nf0
 rw [zq5]
 ac_nf0
 rw [zgG (by omega) (by omega)]
 ac_nf0
 rw [Int.one_mul,zoW]
 ac_nf0
 split<;>rfl
theorem zqm (s:Stk m os): ∀ ls∈(lk os.length).filter (zm2 m os),ls≠[]:=by
 intro ls h e
 subst e
 have:=(List.mem_filter.mp h).2
 have m0:=s.m0
 unfold zm2 at this
 rw [beq_iff_eq] at this
 have h2:(2:Int)^1<=2^m.toNat:=by
  have:=Nat.pow_le_pow_right (n:=2) (by decide) (show 1<=m.toNat by omega)
  have e:((2^m.toNat:Nat):Int)=2^m.toNat:=by simp
  rw [<- e]
  omega
 have h3:zmx os []=0:=rfl
 rw [h3] at this
 omega
theorem zjW (s:Stk m os):F_28 [zce m os]=pure (.lst ((zgW m os).map tI)):=by
 have ol:=s.len
 obtain ⟨y4,e1⟩:=zfL s (s0:=some (zce m os)) (s1:=some (.lst [])) os.length 0 none (by omega)
 have em:=zkJ s (l:=[some (.lst []),none,none,none])
 have ep:=znc s (s1:=some (.lst [])) (s2:=some (.lst (os.map fun o=> .int (mS o.1:Int)))) (s4:=y4)
 rw [<- List.range_eq_range'] at e1
 have el:[D.tup [.tup [],.int 0]]=(lk 0).map (lD os):=rfl
 rw [d_28]
 simp only [G_28]
 simp only [zaV,zch,zfF,zaJ,pure_bind,bind_assoc,qaJ,zaq (show 0<=1000 by decide),zfb,List.set]
 rw [em]
 simp only [pure_bind,zfb,List.set,zeF,zaz,zaJ,zeu,bind_assoc,qaE,qaJ,zaq (show 0+1<=1000 by decide),zaq (show 0<=1000 by decide),zaq (show 0+1+1<=1000 by decide),zht]
 rw [el]
 have er:zgS (zac (zaX zgp (zac (zai 2) zav)) zav) [some (zce m os),some (.lst []),some (.lst (os.map fun o=> .int (mS o.1:Int))),some (.lst ((lk 0).map (lD os))),none]=pure ((List.range os.length).map fun (i:Nat)=> .int (i:Int)):=by
  ac_nf0
  rw [zbR (by omega) (by omega),qaB,zca,qaT]
  rfl
 rw [er,pure_bind,e1]
 simp only [pure_bind,zfb,zco,za8,zaz,zaJ,bind_assoc]
 rw [ep]
 simp only [pure_bind]
 rw [zh4 _ (zqm s)]
 rfl
theorem zjG (s:Stk m os): ∀ (n:Nat) (ls:List Int),ls.length=n->(∀ x∈ls,0<=x/\x<(os.length:Int))-> ∀ i:Nat,(zmx os ls).testBit i=ls.any fun x=>(os.getD x.toNat ([],0)).1.any (· == (i:Int))
 | 0,ls,hl,_,i=>by
  rw [List.length_eq_zero_iff.mp hl]
  exact Nat.zero_testBit i
 | n+1,ls,hl,hb,i=>by
  obtain ⟨r,x,rfl⟩: ∃ r x,ls=r++[x]:=by
   rcases List.eq_nil_or_concat ls with z | ⟨r,t,z⟩
   ·subst z;cases hl
   ·exact ⟨r,t,by rw [z,List.concat_eq_append]⟩
  have hx:=hb x (by simp)
  have hl':x.toNat<os.length:=by omega
  have mo:os.getD x.toNat ([],0)∈os:=by simp [List.getD,hl']
  have ih:=zjG s n r (by simpa using hl) (fun y hy=>hb y (by simp [hy])) i
  rw [zhs,Nat.testBit_or,ih,zma _ _ rfl (s.up _ mo) (fun y hy=>(s.bd _ mo y hy).1),List.any_append]
  simp
theorem ziT (s:Stk m os) {ls:List Int} (hb: ∀ x∈ls,0<=x/\x<(os.length:Int)):zm2 m os ls=true↔ ∀ t:Int,0<=t->t<m-> ∃ x∈ls,t∈(os.getD x.toNat ([],0)).1:=by
 have m0:=s.m0
 have hbit:=zjG s _ ls rfl hb
 have e2:((2^m.toNat - 1:Nat):Int)=2^m.toNat - 1:=by
  have:0<2^m.toNat:=Nat.two_pow_pos _
  rw [Int.ofNat_sub (by omega)]
  simp
 unfold zm2
 rw [beq_iff_eq, <-e2,Int.ofNat_inj]
 constructor
 ·intro e t t0 t1
  have h1:=hbit t.toNat
  rw [e,Nat.testBit_two_pow_sub_one,decide_eq_true (by omega)] at h1
  obtain ⟨x,hx,h2⟩:=List.any_eq_true.mp h1.symm
  obtain ⟨y,hy,h3⟩:=List.any_eq_true.mp h2
  rw [beq_iff_eq] at h3
  refine ⟨x,hx,?_⟩
  rw [show t=y by omega]
  exact hy
 ·intro h
  refine Nat.eq_of_testBit_eq fun i=> ?_
  rw [hbit,Nat.testBit_two_pow_sub_one,Bool.eq_iff_iff,qaD,List.any_eq_true]
  constructor
  ·rintro ⟨x,hx,h2⟩
   obtain ⟨y,hy,h3⟩:=List.any_eq_true.mp h2
   rw [beq_iff_eq] at h3
   have hxb:=hb x hx
   have hl':x.toNat<os.length:=by omega
   have mo:os.getD x.toNat ([],0)∈os:=by simp [List.getD,hl']
   have:=s.bd _ mo y hy
   omega
  ·intro hi
   obtain ⟨x,hx,h2⟩:=h (i:Int) (by omega) (by omega)
   exact ⟨x,hx,List.any_eq_true.mpr ⟨_,h2,by simp⟩⟩
theorem zhH (s:Stk m os) {ls:List Int}:ls∈zgW m os↔(ls.Pairwise (· < ·)/\ ∀ y∈ls,0<=y/\y<(os.length:Int))/\ ∀ t:Int,0<=t->t<m-> ∃ x∈ls,t∈(os.getD x.toNat ([],0)).1:=by
 unfold zgW
 rw [(TS.zcw _ _).mem_iff,List.mem_filter,zf8]
 constructor
 ·rintro ⟨h1,h2⟩
  exact ⟨h1,(ziT s h1.2).mp h2⟩
 ·rintro ⟨h1,h2⟩
  exact ⟨h1,(ziT s h1.2).mpr h2⟩
noncomputable def zeE (m:Int) (os:List (List Int×Int)):Bool:=((zdI (os.flatMap (·.1))).length:Int)==m
theorem zgz (s:Stk m os):Ev (F_12 [zce m os]) (.bl (zeE m os)):=by
 have e:=zpy s (d:= .tup (os.map zbY)) (os':=os) rfl s.len fun o ho=>ho
 refine .of_wp fun h=> ?_
 rw [d_12]
 simp only [G_12]
 ac_nf0
 rw [zof]
 ac_nf0
 refine e.wp fun h' g=> ?_
 ac_nf0
 first | exact ⟨g,rfl⟩ | exact ⟨trivial,g⟩ | exact ⟨g,trivial⟩ | exact g
theorem zj0 (s:Stk m os):zeE m os=true↔ ∀ t:Int,0<=t->t<m-> ∃ o∈os,t∈o.1:=by
 have m0:=s.m0
 have hbd: ∀ x∈zdI (os.flatMap (·.1)),0<=x/\x<m:=fun x hx=>by
  obtain ⟨o,ho,hx⟩:=List.mem_flatMap.mp (zb4.mp hx)
  exact s.bd o ho x hx
 have hf:=zn1 (by omega) (zdm _) hbd
 unfold zeE
 rw [<- hf,beq_iff_eq]
 constructor
 ·intro e t t0 t1
  have:t∈zdI (os.flatMap (·.1)):=by
   rw [e]
   exact qaU.mpr ⟨t.toNat,List.mem_range.mpr (by omega),by omega⟩
  exact List.mem_flatMap.mp (zb4.mp this)
 ·intro h
  refine List.Perm.eq_of_pairwise (le:=fun a b:Int=>a<b) (fun a b _ _ h1 h2=>by omega) (zdm _) (zcN _) ?_
  refine (List.perm_ext_iff_of_nodup ((zdm _).imp fun z=>by omega) ((zcN _).imp fun z=>by omega)).mpr fun x=> ?_
  constructor
  ·intro hx
   have:=hbd x hx
   exact qaU.mpr ⟨x.toNat,List.mem_range.mpr (by omega),by omega⟩
  ·intro hx
   have:=zc3 x hx
   obtain ⟨o,ho,h2⟩:=h x (by omega) (by omega)
   exact zb4.mpr (List.mem_flatMap.mpr ⟨o,ho,h2⟩)
theorem znD (s:Stk m os) (hi:i<os.length) {ts:List D} (ht:ts.length<=100):F_18 [zce m os,.int (i:Int),.tup ts]=pure (.tup [.int m,.tup ((os.take i).map zbY++ts++(os.drop (i+1)).map zbY)]):=by
 have ol:=s.len
 have c1:zh8 (os.map zbY) none (some (i:Int))=(os.take i).map zbY:=by rw [zkU _ (by omega),qaB,List.map_take]
 have c2:zh8 (os.map zbY) (some ((i:Int)+1)) none=(os.drop (i+1)).map zbY:=by
  rw [zk8 _ (by omega),show ((i:Int)+1).toNat=i+1 by omega,List.map_drop]
 have f1:=zaq (show ((os.take i).map zbY).length+ts.length<=1000 by simp;omega)
 have f2:=zaq (show ((os.take i).map zbY++ts).length+((os.drop (i+1)).map zbY).length<=1000 by simp;omega)
 rw [d_18]
 simp only [G_18]
 ac_nf0
 rw [zq5]
 ac_nf0
 rw [zof]
 ac_nf0
 simp only [c1,c2]
 simp only [qaH,qav] at f1 f2
 ac_nf0
 rw [f1]
 ac_nf0
 rw [f2]
 ac_nf0
theorem zgd (s:Stk m os):Stk m (os.eraseIdx i):=by
 have sub:=List.eraseIdx_sublist os i
 have hl:=sub.length_le
 have ol:=s.len
 exact ⟨s.m0,s.m1,by omega,fun o ho=>s.up o (sub.subset ho),fun o ho=>s.bd o (sub.subset ho),fun o ho=>s.ne o (sub.subset ho),fun o ho=>s.pos o (sub.subset ho)⟩
theorem ziu (s:Stk m os) (hi:i<os.length):Ev (F_14 [zce m os,.int (i:Int)]) (.bl (!zeE m (os.eraseIdx i))):=by
 have ex:=znD s hi (ts:=[]) (by simp)
 rw [List.append_nil, <-List.map_append, <-List.eraseIdx_eq_take_drop_succ] at ex
 have ef:=zgz (zgd (i:=i) s)
 refine .of_wp fun h=> ?_
 rw [d_14]
 simp only [G_14]
 ac_nf0
 rw [ex]
 ac_nf0
 refine Ev.wp (show Ev (F_12 [.tup [.int m,.tup ((os.eraseIdx i).map zbY)]]) _ from ef) fun h' g=> ?_
 ac_nf0
 first | exact ⟨trivial,g⟩ | exact ⟨g,trivial⟩ | exact g
theorem znn (s:Stk m os) (hf:zeE m os=true):Ev (F_15 [zce m os]) .non:=by
 have e:=zgz s
 rw [hf] at e
 refine .of_wp fun h=> ?_
 rw [d_15]
 simp only [G_15]
 ac_nf0
 refine e.noX.wp fun h' g=> ?_
 ac_nf0
 first | exact ⟨trivial,g⟩ | exact ⟨g,trivial⟩ | exact g
theorem znB (s:Stk m os) (hf:zeE m os=false):EvX (F_15 [zce m os]) "NotFull":=by
 have e:=zgz s
 rw [hf] at e
 rw [d_15]
 simp only [G_15]
 ac_nf0
 refine Ev.bindX e.noX ?_
 ac_nf0
 exact .raise
noncomputable def zb6 (m:Int) (os:List (List Int×Int)):List Int:=((List.range os.length).filter fun j=> !zeE m (os.eraseIdx j)).map fun (j:Nat)=>(j:Int)
theorem ziM (s:Stk m os) (hf:zeE m os=true) {h:Hh} {P:D->Hh->Prop} (q: ∀ h',Gro h h'->P (.cel h'.length) (h'++[.lst ((zb6 m os).map D.int)])):wp (F_13 [zce m os]) h P:=by
 have ol:=s.len
 rw [d_13]
 simp only [G_13]
 ac_nf0
 refine (znn s hf).wp fun h1 g1=> ?_
 ac_nf0
 unfold zb6 at q
 rw [qaT, <-zbj] at q
 refine zjf (g':=fun (j:Nat)=> .int (j:Int)) (xs:=List.range os.length) (k:=fun x=>if (!zeE m (os.eraseIdx x))=true then some ((D.int∘fun (j:Nat)=>(j:Int)) x) else none) ?_ (by simp;omega) (fun j hj=> ?_) fun h2 g2=> ?_
 ·ac_nf0
  rw [zof]
  ac_nf0
  rw [zbR (by omega) (by omega),qaB,zca,qaT]
  rfl
 ·have eb:zae [none,some 0] [some (zce m os)]=[none,some (zce m os)]:=rfl
  rw [eb]
  refine .of_wp fun h=> ?_
  simp only [zaH,zeJ,zey]
  ac_nf0
  refine (ziu s (List.mem_range.mp hj)).noX.wp fun h' g=> ?_
  ac_nf0
  cases zeE m (os.eraseIdx j)<;>ac_nf0<;>first | exact ⟨trivial,g⟩ | exact ⟨g,trivial⟩ | exact ⟨rfl,g⟩ | exact ⟨g,rfl⟩ | exact g
 ·exact q h2 (g1.trans g2)
theorem zjd (s:Stk m os) (hf:zeE m os=false):EvX (F_13 [zce m os]) "NotFull":=by
 rw [d_13]
 simp only [G_13]
 ac_nf0
 exact EvX.left (znB s hf)
theorem znw (s:Stk m os) (hi:i<os.length):((zgW m os).filter fun ls=> !ls.any (· == (i:Int))).isEmpty= !zeE m (os.eraseIdx i):=by
 have s':=zgd (i:=i) s
 have key:zeE m (os.eraseIdx i)=true↔((zgW m os).filter fun ls=> !ls.any (· == (i:Int)))≠[]:=by
  rw [zj0 s']
  constructor
  ·intro h
   refine List.ne_nil_of_mem (a:=((List.range os.length).map fun (k:Nat)=>(k:Int)).filter fun x=> !(x==(i:Int))) (List.mem_filter.mpr ⟨(zhH s).mpr ⟨⟨(zcN _).filter _,fun y hy=>zc3 y (List.mem_filter.mp hy).1⟩,fun t t0 t1=> ?_⟩,?_⟩)
   ·obtain ⟨o,ho,hx⟩:=h t t0 t1
    obtain ⟨j,hj,hne,rfl⟩:=List.mem_eraseIdx_iff_getElem.mp ho
    refine ⟨(j:Int),List.mem_filter.mpr ⟨qaU.mpr ⟨j,List.mem_range.mpr hj,rfl⟩,?_⟩,?_⟩
    ·rw [Bool.not_eq_true',beq_eq_false_iff_ne]
     omega
    ·rw [qaB]
     simpa [List.getD,hj] using hx
   ·simp
  ·intro hn t t0 t1
   obtain ⟨ls,hls⟩:=List.exists_mem_of_ne_nil _ hn
   obtain ⟨h1,h2⟩:=List.mem_filter.mp hls
   obtain ⟨⟨_,hb⟩,hc⟩:=(zhH s).mp h1
   obtain ⟨j,hj,hx⟩:=hc t t0 t1
   have hbj:=hb j hj
   have hl:j.toNat<os.length:=by omega
   refine ⟨os.getD j.toNat ([],0),List.mem_eraseIdx_iff_getElem.mpr ⟨j.toNat,hl,fun e=> ?_,by simp [List.getD,hl]⟩,hx⟩
   have hji:j=(i:Int):=by omega
   rw [Bool.not_eq_true',List.any_eq_false] at h2
   exact h2 j hj (by simp [hji])
 cases hb:zeE m (os.eraseIdx i) with
 | true=>
  have:=key.mp hb
  cases hl:((zgW m os).filter fun ls=> !ls.any (· == (i:Int))) with
  | nil=>exact absurd hl this
  | cons _ _=>rfl
 | false=>
  have: ¬((zgW m os).filter fun ls=> !ls.any (· == (i:Int)))≠[]:=fun z=>by rw [key.mpr z] at hb;cases hb
  rw [Classical.not_not.mp this]
  rfl
theorem zrk:F_23 [.exn "NotFull"]=pure (.str "! full"):=by
 funext h
 rfl
theorem zkE (s:Stk m os) (hf:zeE m os=true) {h:Hh} {P:D->Hh->Prop} (q: ∀ h',Gro h h'->P (.cel h'.length) (h'++[.lst ((zb6 m os).map D.int)])):wp (F_29 [zce m os]) h P:=by
 rw [d_29]
 simp only [G_29,zah]
 refine znJ ?_
 ac_nf0
 refine ziM s hf fun h' g=> ?_
 ac_nf0
 exact q h' g
theorem zkn (s:Stk m os) (hf:zeE m os=false):Ev (F_29 [zce m os]) (.str "! full"):=by
 rw [d_29]
 simp only [G_29]
 refine Ev.bind (zly (c:="NotFull") (d:= .str "! full") ?_ rfl zrk) (.of (by ac_nf0))
 ac_nf0
 exact EvX.left (zjd s hf)
theorem zlq (s:Stk m os):(zgW m os).length<=4096:=by
 have ol:=s.len
 unfold zgW
 rw [(TS.zcw _ _).length_eq]
 refine qaS (List.length_filter_le _ _) ?_
 rw [zgc]
 exact qaS (Nat.pow_le_pow_right (by decide) ol) (by decide)
theorem zkP (s:Stk m os) {s0 s1 s2 s5 s6 s7 s8:Option D}:zaG (zgS (zac (zaX zgp (zac (cOp dIx (zai 3) (cK (.int 1))) zav)) zav)) (zaU 0) zgI zgL [none,some 4] [s0,s1,s2,some (zce m os),some (.lst ((zgW m os).map tI)),s5,s6,s7,s8]=pure (.lst ((zb6 m os).map D.int)):=by
 have ol:=s.len
 have cl:=zlq s
 unfold zb6
 rw [qaT, <-zbj]
 refine zbt (g':=fun (j:Nat)=> .int (j:Int)) ?_ (by simp;omega) fun j hj=> ?_
 ·ac_nf0
  rw [zof]
  ac_nf0
  rw [zbR (by omega) (by omega),qaB,zca,qaT]
  rfl
 ·have eb:zae [none,some 4] [s0,s1,s2,some (zce m os),some (.lst ((zgW m os).map tI)),s5,s6,s7,s8]=[none,some (.lst ((zgW m os).map tI))]:=rfl
  have ei:zaG (iSq (zai 1)) (zaU 0) zgx zgr [none,some 0] [some (.int (j:Int)),some (.lst ((zgW m os).map tI))]=pure (.lst (((zgW m os).filter fun ls=> !ls.any (· == (j:Int))).map tI)):=by
   rw [<- zbj]
   refine zbt (g':=tI) rfl (by omega) fun ls _=> ?_
   have eb:zae [none,some 0] [some (.int (j:Int)),some (.lst ((zgW m os).map tI))]=[none,some (.int (j:Int))]:=rfl
   rw [eb]
   simp only [zaH,zgx,zgr]
   ac_nf0
   rw [zf6]
   ac_nf0
   split<;>rfl
  rw [eb]
  simp only [zaH,zgI,zgL]
  ac_nf0
  rw [ei]
  ac_nf0
  rw [zkM,znw s (List.mem_range.mp hj)]
  ac_nf0
  split<;>rfl
theorem zis (s:Stk m os) (hf:zeE m os=true) {b:Nat} {s0 s1 s4 s6 s8 x7:Option D} {h:Hh} {P:Out->Hh->Prop} (q:Bx b h)
  (k: ∀ y7 h',Bx b h'->P (.nx [s0,s1,some (.cel b),some (zce m os),s4,some (.lst ((zb6 m os).map D.int)),s6,y7,s8]) h'):
  wp (zgC [s0,s1,some (.cel b),some (zce m os),s4,some (.lst ((zb6 m os).map D.int)),s6,x7,s8]) h P:=by
 have ol:=s.len
 have nl:(zb6 m os).length<=12:=by
  unfold zb6
  rw [qaH]
  exact qaS (List.length_filter_le _ _) (by simpa using ol)
 have f1:=zaq (show (zb6 m os).length+1<=1000 by omega)
 simp only [zgC]
 ac_nf0
 refine zkE s hf fun h1 g1=> ?_
 have qb:=(Gro.ext q g1).1
 have hb:b<h1.length:=by
  obtain ⟨z,e⟩:=qb
  exact (qac.mp e).1
 have q1:(h1++[C.lst ((zb6 m os).map D.int)])[h1.length]? = some (.lst ((zb6 m os).map D.int)):=by simp
 have qb2:Bx b (h1++[C.lst ((zb6 m os).map D.int)]):=(qb.push).1
 have hne:h1.length≠b:=by omega
 generalize h1++[C.lst ((zb6 m os).map D.int)]=h3 at q1 qb2 ⊢
 generalize h1.length=a at q1 hne ⊢
 ac_nf0
 refine zp3 q1 ?_
 ac_nf0
 refine zkI (n:=a) (g':=D.int) (xs:=zb6 m os) (k:=fun _=>some (.bl true)) rfl q1 (by omega) (fun x _=> ?_) ?_
 ·have eb:zae [none] [s0,s1,some (.cel b),some (zce m os),s4,some (.lst ((zb6 m os).map D.int)),s6,some (.cel a),s8]=[none]:=rfl
  rw [eb]
  simp only [zaH,ziS]
  ac_nf0
  rw [zj5 (d:= .int x) rfl]
  ac_nf0
  rfl
 have ea:(zb6 m os).filterMap (fun _=>some (D.bl true))=((zb6 m os).map fun _=>true).map D.bl:=by simp
 rw [ea]
 ac_nf0
 rw [znm]
 have eb:((zb6 m os).map fun _=>true).all id=true:=by simp
 rw [eb]
 ac_nf0
 refine zkw q1 ?_
 ac_nf0
 simp only [zgn,zdB,zcJ]
 ac_nf0
 simp only [zcs q1,zah,zaj,qaH,f1,zhq,pure_bind,zdB,zcJ]
 ac_nf0
 refine k _ _ ?_
 obtain ⟨z,e⟩:=qb2
 exact ⟨z,by rw [qao hne];exact e⟩
theorem znI (s:Stk m os):F_27 [zce m os,.lst (zcM 0 os.length)]=pure (tI (zdI (os.flatMap (·.1)))):=by
 have hb:=fun x hx=>zc3 (n:=os.length) x hx
 obtain ⟨gs,x3,el,g1,g2,g3⟩:=zhe s (s1:=some (.lst (zcM 0 os.length))) ((List.range os.length).map fun (k:Nat)=>(k:Int)) [] none hb .nil (fun x hx=>by cases hx)
 rw [zk0] at g3
 have:=s.m0
 have:=s.m1
 have hl:=zd6 (by omega) g1 g2
 rw [d_27]
 simp only [G_27]
 simp only [List.map_nil,zcE,pure_bind] at el
 rw [<- zca] at el
 ac_nf0
 rw [el]
 ac_nf0
 rw [zgt (by omega)]
 ac_nf0
 have e3: ∀ k,k∈gs↔k∈os.flatMap (·.1):=fun k=>by rw [g3 k];simp
 rw [zgA g1 e3]
theorem zo8 (s:Stk m os) (hc: ∀ i:Int,0<=i->i<m-> ∃ o∈os.map zbY, ∃ (xs:List Int) (p:Int),o= .tup [.tup (xs.map D.int),.int p]/\i∈xs):zeE m os=true:=by
 refine (zj0 s).mpr fun t t0 t1=> ?_
 obtain ⟨o,ho,xs,p,rfl,hx⟩:=hc t t0 t1
 obtain ⟨o',ho',e⟩:=qaU.mp ho
 refine ⟨o',ho',?_⟩
 have e1:o'.1.map D.int=xs.map D.int:=by
  simp only [zbY,tI] at e
  injection e with e
  injection e with e _
  injection e
 have e2:o'.1=xs:=(List.map_inj_right fun a b h=>by injection h).mp e1
 rw [e2]
 exact hx
theorem zg4 {ns:List Int}: ∀ (ds:List D) {h:Hh} {x1 x2 x3 x4 x5 x6 x7 x8:Option D},(∀ d∈ds, ∃ i:Int,d= .int i/\0<=i/\i<5)->
  wp (za3 (fun x sd=>do let sd1<-zaU 1 x sd;zdT sd1) ds [some (.scr (ns.map D.int)),x1,x2,x3,x4,x5,x6,x7,x8]) h fun o _=> ∃ sd,o= .nx sd
 | [],h,x1,x2,x3,x4,x5,x6,x7,x8,_=>by rw [zdM,zaj];exact ⟨_,rfl⟩
 | d::r,h,x1,x2,x3,x4,x5,x6,x7,x8,hd=>by
  obtain ⟨i,rfl,i0,i1⟩:=hd _ qau
  have ih: ∀ {h:Hh} {x1 x2 x3 x4 x5 x6 x7 x8:Option D},wp (za3 (fun x sd=>do let sd1<-zaU 1 x sd;zdT sd1) r [some (.scr (ns.map D.int)),x1,x2,x3,x4,x5,x6,x7,x8]) h fun o _=> ∃ sd,o= .nx sd:=zg4 r fun y hy=>hd y (qan _ hy)
  rw [zcn]
  generalize za3 (fun x sd=>do let sd1<-zaU 1 x sd;zdT sd1) r=rest at ih ⊢
  simp only [zdT]
  ac_nf0
  refine zoM i0 i1 fun z=> ?_
  have qb:Bx h.length (h++[.lst [.int z]]):=⟨z,by simp⟩
  generalize h.length=b at qb ⊢
  generalize h++[.lst [.int z]]=h1 at qb ⊢
  ac_nf0
  refine zbl qb (by decide) (by decide) fun t h2 t0 t1 x2=> ?_
  obtain ⟨lots,el,z0,z1⟩: ∃ lots:Int,atI [D.int 12,.int 6] t=some (.int lots)/\1<=lots/\lots<=12:=by
   have:t=0\/t=1:=by omega
   rcases this with rfl | rfl
   ·exact ⟨12,rfl,by decide,by decide⟩
   ·exact ⟨6,rfl,by decide,by decide⟩
  ac_nf0
  rw [el]
  ac_nf0
  refine zmz z0 z1 x2.1 fun m ods h3 q3 m0 m1 l0 l1 ho hc=> ?_
  obtain ⟨os,rfl,s⟩:=zmf m0 m1 l1 ho
  have hf:=zo8 s hc
  have ol:=s.len
  rw [show D.tup [.int m,.tup (os.map zbY)]=zce m os from rfl]
  ac_nf0
  rw [zjW s]
  ac_nf0
  rw [zkP s]
  ac_nf0
  rw [zbR (by decide) (by decide),show zcM 0 (2:Int).toNat=[.int 0,.int 1] from rfl]
  ac_nf0
  rw [zcn]
  ac_nf0
  refine zis s hf q3 fun y7 h4 q4=> ?_
  ac_nf0
  rw [zcn]
  ac_nf0
  refine zis s hf q4 fun y7' h5 q5=> ?_
  ac_nf0
  rw [zdM]
  ac_nf0
  refine zko s q5 fun os' h6 s' x6'=> ?_
  have ol':=s'.len
  have hz:=znI s'
  ac_nf0
  rw [zof]
  ac_nf0
  have e1:zfk (.int (os'.length:Int))=pure (.lst (zcM 0 os'.length)):=by
   show (if 0<=(os'.length:Int)/\(os'.length:Int)<1000 then (pure (.lst (zcM 0 ((os'.length:Int)).toNat)):M D) else M.bad)=_
   rw [qa4 ⟨by omega,by omega⟩,qaB]
  rw [e1]
  ac_nf0
  rw [hz]
  ac_nf0
  rw [zq5]
  ac_nf0
  simp only [zrX]
  ac_nf0
  by_cases c:((zdI (os'.flatMap (·.1))).length:Int)<m
  ·have hf':zeE m os'=false:=by
    unfold zeE
    rw [beq_eq_false_iff_ne]
    omega
   rw [decide_eq_true c]
   ac_nf0
   refine (zkn s' hf').wp fun h7 g7=> ?_
   ac_nf0
   refine zmQ zpQ ?_
   ac_nf0
   exact ih
  ·rw [decide_eq_false c]
   ac_nf0
   exact ih
theorem zlv: ∀ ns:List Int,ns.length<=63-> ∃ h',F_30 [.scr (ns.map D.int)] []= .ok (.bl true) h':=by
 intro ns _
 have key:wp (F_30 [.scr (ns.map D.int)]) [] fun d _=>d= .bl true:=by
  rw [d_30]
  simp only [G_30]
  ac_nf0
  simp only [zmc]
  ac_nf0
  simp only [zrz]
  ac_nf0
  generalize hn:(if (if (3:Int)<(ns.length:Int) then (3:Int) else (ns.length:Int))>1 then (if (3:Int)<(ns.length:Int) then (3:Int) else (ns.length:Int)) else (1:Int))=n
  have n0:0<=n/\n<=5:=by
   rw [<- hn]
   split<;>split<;>omega
  rw [zbR n0.1 (by omega)]
  ac_nf0
  refine zjA (zg4 _ fun d hd=> ?_) ?_
  ·obtain ⟨i,e,i0,i1⟩:=ze2 hd
   exact ⟨i,e,i0,by omega⟩
  ·rintro o h' ⟨sd,rfl⟩
   ac_nf0
 obtain ⟨d,h',e,rfl⟩:=key
 exact ⟨h',e⟩
end K03
namespace K03
open PySem PySem.Spec PyProof.Rows L2 L3
theorem zol {l:W.OpenLaw} {w:World} {K:W.Frag} {h:Heap} {mg:Str->Option Value} {fa a_0 a_1 a_2 a_3 a_4 a_5 a_6 a_7 a_8 a_9 a_10 a_11 a_19 a_20 a_21 a_24 a_25 a_28 a_23 a_16 a_17 a_12 a_15 a_18 a_14 a_13 a_29 a_22 a_26 a_27 a_30:Addr} (X:K.In h) (G:h.Ns mainGlobals mg) (hfa:mg "law"=some (.ref fa))
  {od_30 an_30:Option Addr} {sl_30:Array (Option Value)} {oc_30 kV_30 dc_30 pm_30 cd_30 ct_30:Value}
  {d_19 d_20 d_21 d_24 d_25 d_28 d_23 d_16 d_17 d_12 d_15 d_18 d_14 d_13 d_29 d_22 d_26 d_27:FuncData}
  (f_19:Fd K "_law_cell" s_19 a_19 d_19)
  (f_20:Fd K "_law_box" s_20 a_20 d_20)
  (f_21:Fd K "_law_take" s_21 a_21 d_21)
  (f_24:Fd K "_law_things" s_24 a_24 d_24)
  (f_25:Fd K "_law_full" s_25 a_25 d_25)
  (f_28:Fd K "_law_covers" s_28 a_28 d_28)
  (f_23:Fd K "_law_kind" s_23 a_23 d_23)
  (f_16:Fd K "things_together" s_16 a_16 d_16)
  (f_17:Fd K "have_all" s_17 a_17 d_17)
  (f_12:Fd K "is_full" s_12 a_12 d_12)
  (f_15:Fd K "need_full" s_15 a_15 d_15)
  (f_18:Fd K "exchanged" s_18 a_18 d_18)
  (f_14:Fd K "is_needed" s_14 a_14 d_14)
  (f_13:Fd K "needed" s_13 a_13 d_13)
  (f_29:Fd K "_law_asked" s_29 a_29 d_29)
  (f_22:Fd K "_law_whole" s_22 a_22 d_22)
  (f_26:Fd K "_law_holed" s_26 a_26 d_26)
  (f_27:Fd K "_law_has" s_27 a_27 d_27)
  (e_30:W.nsIn K mainGlobals "law"=some (some (.ref a_30))) (l_30:K.lookup a_30=some ⟨oc_30,od_30,.func (W.fnOf "law" "law" (zdf s_30) (zbW s_30) (zaf s_30) .none kV_30 dc_30 pm_30 an_30 cd_30 ct_30),sl_30⟩) (c_30:W.codeIn K cd_30 "law"=true) (k_30:W.keepIn K (.ref a_30)=true)
  (e_0:W.nsIn K mainGlobals "CoverError"=some (some (.ref a_0)))
  (e_1:W.nsIn K mainGlobals "NoStock"=some (some (.ref a_1)))
  (e_2:W.nsIn K mainGlobals "NoOffer"=some (some (.ref a_2)))
  (e_3:W.nsIn K mainGlobals "NoThing"=some (some (.ref a_3)))
  (e_4:W.nsIn K mainGlobals "NoCover"=some (some (.ref a_4)))
  (e_5:W.nsIn K mainGlobals "NoPaper"=some (some (.ref a_5)))
  (e_6:W.nsIn K mainGlobals "NoNumber"=some (some (.ref a_6)))
  (e_7:W.nsIn K mainGlobals "NotFull"=some (some (.ref a_7)))
  (e_8:W.nsIn K mainGlobals "NotInRow"=some (some (.ref a_8)))
  (e_9:W.nsIn K mainGlobals "NoText"=some (some (.ref a_9)))
  (e_10:W.nsIn K mainGlobals "NoRow"=some (some (.ref a_10)))
  (e_11:W.nsIn K mainGlobals "TooMany"=some (some (.ref a_11)))
  (z_ValueError:W.nsIn K mainGlobals "ValueError"=some none)
  (z_all:W.nsIn K mainGlobals "all"=some none)
  (z_bool:W.nsIn K mainGlobals "bool"=some none)
  (z_int:W.nsIn K mainGlobals "int"=some none)
  (z_isinstance:W.nsIn K mainGlobals "isinstance"=some none)
  (z_len:W.nsIn K mainGlobals "len"=some none)
  (z_list:W.nsIn K mainGlobals "list"=some none)
  (z_max:W.nsIn K mainGlobals "max"=some none)
  (z_min:W.nsIn K mainGlobals "min"=some none)
  (z_range:W.nsIn K mainGlobals "range"=some none)
  (z_set:W.nsIn K mainGlobals "set"=some none)
  (z_sorted:W.nsIn K mainGlobals "sorted"=some none)
  (z_sum:W.nsIn K mainGlobals "sum"=some none)
  (z_tuple:W.nsIn K mainGlobals "tuple"=some none)
  (x_tab:zjc K a_0 [("NoStock",a_1),("NoOffer",a_2),("NoThing",a_3),("NoCover",a_4),("NoPaper",a_5),("NoNumber",a_6),("NotFull",a_7),("NotInRow",a_8),("NoText",a_9),("NoRow",a_10),("TooMany",a_11)]=true)
  : ∃ fd:FuncData,(∀ (s:Shared) (v:Value),BindsTo s fd ⟨[v],[]⟩ [("script",v)])/\ ∀ base:Heap,K.In base->base.Ns mainGlobals mg->zbZ l.prog w K mg base CX0 7 fa fd ["script"] (zcx K 1 F_30):=by
 have e:=hfa.symm.trans (W.mg_of X G e_30)
 cases e
 have F_30:=za6 (st:=s_30) l_30 c_30 k_30
 have b_30:=F_30.binds (ps:=["script"]) fun _ _ _ _ _ _ us hl=>match us,hl with | [_],_=>rfl
 have T:Tx K mg ⟨a_0,a_1,a_2,a_3,a_4,a_5,a_6,a_7,a_8,a_9,a_10,a_11,a_19,_,a_20,_,a_21,_,a_24,_,a_25,_,a_28,_,a_23,_,a_16,_,a_17,_,a_12,_,a_15,_,a_18,_,a_14,_,a_13,_,a_29,_,a_22,_,a_26,_,a_27,_,fa,_⟩:=
  {g_0:=W.mg_of X G e_0,
    g_1:=W.mg_of X G e_1,
    g_2:=W.mg_of X G e_2,
    g_3:=W.mg_of X G e_3,
    g_4:=W.mg_of X G e_4,
    g_5:=W.mg_of X G e_5,
    g_6:=W.mg_of X G e_6,
    g_7:=W.mg_of X G e_7,
    g_8:=W.mg_of X G e_8,
    g_9:=W.mg_of X G e_9,
    g_10:=W.mg_of X G e_10,
    g_11:=W.mg_of X G e_11,
    k_1:=e_1,
    k_2:=e_2,
    k_3:=e_3,
    k_4:=e_4,
    k_5:=e_5,
    k_6:=e_6,
    k_7:=e_7,
    k_8:=e_8,
    k_9:=e_9,
    k_10:=e_10,
    k_11:=e_11,
    x_exc:=zkd.of x_tab,
    n_ValueError:=W.mg_none_of X G z_ValueError,
    n_all:=W.mg_none_of X G z_all,
    n_bool:=W.mg_none_of X G z_bool,
    n_int:=W.mg_none_of X G z_int,
    n_isinstance:=W.mg_none_of X G z_isinstance,
    n_len:=W.mg_none_of X G z_len,
    n_list:=W.mg_none_of X G z_list,
    n_max:=W.mg_none_of X G z_max,
    n_min:=W.mg_none_of X G z_min,
    n_range:=W.mg_none_of X G z_range,
    n_set:=W.mg_none_of X G z_set,
    n_sorted:=W.mg_none_of X G z_sorted,
    n_sum:=W.mg_none_of X G z_sum,
    n_tuple:=W.mg_none_of X G z_tuple,
    m_19:=W.mg_of X G f_19.e,
    F_19:=f_19.F,
    b_19:=f_19.F.binds (ps:=["script","k"]) fun _ _ _ _ _ _ us hl=>match us,hl with | [_,_],_=>rfl,
    m_20:=W.mg_of X G f_20.e,
    F_20:=f_20.F,
    b_20:=f_20.F.binds (ps:=["script","k"]) fun _ _ _ _ _ _ us hl=>match us,hl with | [_,_],_=>rfl,
    m_21:=W.mg_of X G f_21.e,
    F_21:=f_21.F,
    b_21:=f_21.F.binds (ps:=["box","many"]) fun _ _ _ _ _ _ us hl=>match us,hl with | [_,_],_=>rfl,
    m_24:=W.mg_of X G f_24.e,
    F_24:=f_24.F,
    b_24:=f_24.F.binds (ps:=["box","many"]) fun _ _ _ _ _ _ us hl=>match us,hl with | [_,_],_=>rfl,
    m_25:=W.mg_of X G f_25.e,
    F_25:=f_25.F,
    b_25:=f_25.F.binds (ps:=["box","most","lots"]) fun _ _ _ _ _ _ us hl=>match us,hl with | [_,_,_],_=>rfl,
    m_28:=W.mg_of X G f_28.e,
    F_28:=f_28.F,
    b_28:=f_28.F.binds (ps:=["stock"]) fun _ _ _ _ _ _ us hl=>match us,hl with | [_],_=>rfl,
    m_23:=W.mg_of X G f_23.e,
    F_23:=f_23.F,
    b_23:=f_23.F.binds (ps:=["e"]) fun _ _ _ _ _ _ us hl=>match us,hl with | [_],_=>rfl,
    m_16:=W.mg_of X G f_16.e,
    F_16:=f_16.F,
    b_16:=f_16.F.binds (ps:=["offers"]) fun _ _ _ _ _ _ us hl=>match us,hl with | [_],_=>rfl,
    m_17:=W.mg_of X G f_17.e,
    F_17:=f_17.F,
    b_17:=f_17.F.binds (ps:=["stock","offers"]) fun _ _ _ _ _ _ us hl=>match us,hl with | [_,_],_=>rfl,
    m_12:=W.mg_of X G f_12.e,
    F_12:=f_12.F,
    b_12:=f_12.F.binds (ps:=["stock"]) fun _ _ _ _ _ _ us hl=>match us,hl with | [_],_=>rfl,
    m_15:=W.mg_of X G f_15.e,
    F_15:=f_15.F,
    b_15:=f_15.F.binds (ps:=["stock"]) fun _ _ _ _ _ _ us hl=>match us,hl with | [_],_=>rfl,
    m_18:=W.mg_of X G f_18.e,
    F_18:=f_18.F,
    b_18:=f_18.F.binds (ps:=["stock","number","offers"]) fun _ _ _ _ _ _ us hl=>match us,hl with | [_,_,_],_=>rfl,
    m_14:=W.mg_of X G f_14.e,
    F_14:=f_14.F,
    b_14:=f_14.F.binds (ps:=["stock","number"]) fun _ _ _ _ _ _ us hl=>match us,hl with | [_,_],_=>rfl,
    m_13:=W.mg_of X G f_13.e,
    F_13:=f_13.F,
    b_13:=f_13.F.binds (ps:=["stock"]) fun _ _ _ _ _ _ us hl=>match us,hl with | [_],_=>rfl,
    m_29:=W.mg_of X G f_29.e,
    F_29:=f_29.F,
    b_29:=f_29.F.binds (ps:=["stock"]) fun _ _ _ _ _ _ us hl=>match us,hl with | [_],_=>rfl,
    m_22:=W.mg_of X G f_22.e,
    F_22:=f_22.F,
    b_22:=f_22.F.binds (ps:=["thing"]) fun _ _ _ _ _ _ us hl=>match us,hl with | [_],_=>rfl,
    m_26:=W.mg_of X G f_26.e,
    F_26:=f_26.F,
    b_26:=f_26.F.binds (ps:=["box","stock"]) fun _ _ _ _ _ _ us hl=>match us,hl with | [_,_],_=>rfl,
    m_27:=W.mg_of X G f_27.e,
    F_27:=f_27.F,
    b_27:=f_27.F.binds (ps:=["stock","lot"]) fun _ _ _ _ _ _ us hl=>match us,hl with | [_,_],_=>rfl,
    m_30:=W.mg_of X G e_30,
    F_30:=F_30,
    b_30:=b_30}
 exact ⟨W.fnOf "law" "law" (zdf s_30) (zbW s_30) (zaf s_30) .none kV_30 dc_30 pm_30 an_30 cd_30 ct_30,fun s v=> .of_eq rfl,fun base _ _=>ok_30 T⟩
theorem zsq {l:W.OpenLaw} {q:Program} {loose:List Str} {XP:(Str->Option Value)->Heap->Prop} {YP:World->Heap->Prop} {d:DefRec} {K:Params->W.Frag} (hn:l.most=some 63) (hdf:d.params.defaults=[])
  (hY: ∀ (w:World) (h:Heap),YP w h->(K w.params).In h)
  (F: ∀ (w:World) (mg:Str->Option Value) (fa:Addr) (h:Heap),(K w.params).In h->h.Ns mainGlobals mg->mg d.name=some (.ref fa)->
    ∃ fd:FuncData,(∀ (s:Shared) (u:Value),BindsTo s fd ⟨[u],[]⟩ [("script",u)])/\ ∀ base:Heap,(K w.params).In base->base.Ns mainGlobals mg->zbZ l.prog w (K w.params) mg base CX0 7 fa fd ["script"] (zcx (K w.params) 1 F_30))
  (hm: ∀ ns:List Int,ns.length<=63-> ∃ h',F_30 [.scr (ns.map D.int)] []= .ok (.bl true) h'):
  W.WalkO q loose XP YP l.row.toRowW d [] (fun f vs=>PySem.call f vs):=
 L2.zmO (n:=63) (k:=7) (x:="script") (CX:=fun _=>CX0) (sp:=fun w=>zcx (K w.params) 1 F_30) hn (by decide) hdf ⟨rfl,by decide,by decide⟩ hY F (fun w H a ns hl _ hS=>zry hS (hm ns hl)) fun _ _ _ _ _ z=>z
end K03
open PySem PySem.W PyProof.Rows
set_option maxRecDepth 100000 in
set_option maxHeartbeats 0 in
theorem PySem.Challenge.cw_cheapcovers_k03_needed_offers_holds : PySem.Challenge.rw_cheapcovers_k03_needed_offers.Holds := by
 w_on; o_law; k_head; (case hw => w_witness2)
 k_fill
 refine K03.zsq (l := PySem.Challenge.rw_cheapcovers_k03_needed_offers) rfl rfl (fun w h Y => W.kIn_of Y) ?F K03.zlv
 case F =>
  intro w mg fa h KX G hmg
  refine' K03.zol KX G hmg (L3.Fd.mk ?e__law_cell (L2.za6 ?l__law_cell ?c__law_cell ?k__law_cell)) (L3.Fd.mk ?e__law_box (L2.za6 ?l__law_box ?c__law_box ?k__law_box)) (L3.Fd.mk ?e__law_take (L2.za6 ?l__law_take ?c__law_take ?k__law_take)) (L3.Fd.mk ?e__law_things (L2.za6 ?l__law_things ?c__law_things ?k__law_things)) (L3.Fd.mk ?e__law_full (L2.za6 ?l__law_full ?c__law_full ?k__law_full)) (L3.Fd.mk ?e__law_covers (L2.za6 ?l__law_covers ?c__law_covers ?k__law_covers)) (L3.Fd.mk ?e__law_kind (L2.za6 ?l__law_kind ?c__law_kind ?k__law_kind)) (L3.Fd.mk ?e_things_together (L2.za6 ?l_things_together ?c_things_together ?k_things_together)) (L3.Fd.mk ?e_have_all (L2.za6 ?l_have_all ?c_have_all ?k_have_all)) (L3.Fd.mk ?e_is_full (L2.za6 ?l_is_full ?c_is_full ?k_is_full)) (L3.Fd.mk ?e_need_full (L2.za6 ?l_need_full ?c_need_full ?k_need_full)) (L3.Fd.mk ?e_exchanged (L2.za6 ?l_exchanged ?c_exchanged ?k_exchanged)) (L3.Fd.mk ?e_is_needed (L2.za6 ?l_is_needed ?c_is_needed ?k_is_needed)) (L3.Fd.mk ?e_needed (L2.za6 ?l_needed ?c_needed ?k_needed)) (L3.Fd.mk ?e__law_asked (L2.za6 ?l__law_asked ?c__law_asked ?k__law_asked)) (L3.Fd.mk ?e__law_whole (L2.za6 ?l__law_whole ?c__law_whole ?k__law_whole)) (L3.Fd.mk ?e__law_holed (L2.za6 ?l__law_holed ?c__law_holed ?k__law_holed)) (L3.Fd.mk ?e__law_has (L2.za6 ?l__law_has ?c__law_has ?k__law_has)) ?e_law ?l_law ?c_law ?k_law ?e_CoverError ?e_NoStock ?e_NoOffer ?e_NoThing ?e_NoCover ?e_NoPaper ?e_NoNumber ?e_NotFull ?e_NotInRow ?e_NoText ?e_NoRow ?e_TooMany ?z_ValueError ?z_all ?z_bool ?z_int ?z_isinstance ?z_len ?z_list ?z_max ?z_min ?z_range ?z_set ?z_sorted ?z_sum ?z_tuple ?x_tab
  (case e__law_cell => k_is)
  (case l__law_cell => k_is)
  (case c__law_cell => k_is)
  (case k__law_cell => k_is)
  (case e__law_box => k_is)
  (case l__law_box => k_is)
  (case c__law_box => k_is)
  (case k__law_box => k_is)
  (case e__law_take => k_is)
  (case l__law_take => k_is)
  (case c__law_take => k_is)
  (case k__law_take => k_is)
  (case e__law_things => k_is)
  (case l__law_things => k_is)
  (case c__law_things => k_is)
  (case k__law_things => k_is)
  (case e__law_full => k_is)
  (case l__law_full => k_is)
  (case c__law_full => k_is)
  (case k__law_full => k_is)
  (case e__law_covers => k_is)
  (case l__law_covers => k_is)
  (case c__law_covers => k_is)
  (case k__law_covers => k_is)
  (case e__law_kind => k_is)
  (case l__law_kind => k_is)
  (case c__law_kind => k_is)
  (case k__law_kind => k_is)
  (case e_things_together => k_is)
  (case l_things_together => k_is)
  (case c_things_together => k_is)
  (case k_things_together => k_is)
  (case e_have_all => k_is)
  (case l_have_all => k_is)
  (case c_have_all => k_is)
  (case k_have_all => k_is)
  (case e_is_full => k_is)
  (case l_is_full => k_is)
  (case c_is_full => k_is)
  (case k_is_full => k_is)
  (case e_need_full => k_is)
  (case l_need_full => k_is)
  (case c_need_full => k_is)
  (case k_need_full => k_is)
  (case e_exchanged => k_is)
  (case l_exchanged => k_is)
  (case c_exchanged => k_is)
  (case k_exchanged => k_is)
  (case e_is_needed => k_is)
  (case l_is_needed => k_is)
  (case c_is_needed => k_is)
  (case k_is_needed => k_is)
  (case e_needed => k_is)
  (case l_needed => k_is)
  (case c_needed => k_is)
  (case k_needed => k_is)
  (case e__law_asked => k_is)
  (case l__law_asked => k_is)
  (case c__law_asked => k_is)
  (case k__law_asked => k_is)
  (case e__law_whole => k_is)
  (case l__law_whole => k_is)
  (case c__law_whole => k_is)
  (case k__law_whole => k_is)
  (case e__law_holed => k_is)
  (case l__law_holed => k_is)
  (case c__law_holed => k_is)
  (case k__law_holed => k_is)
  (case e__law_has => k_is)
  (case l__law_has => k_is)
  (case c__law_has => k_is)
  (case k__law_has => k_is)
  (case e_law => k_is)
  (case l_law => k_is)
  (case c_law => k_is)
  (case k_law => k_is)
  (case e_CoverError => k_is)
  (case e_NoStock => k_is)
  (case e_NoOffer => k_is)
  (case e_NoThing => k_is)
  (case e_NoCover => k_is)
  (case e_NoPaper => k_is)
  (case e_NoNumber => k_is)
  (case e_NotFull => k_is)
  (case e_NotInRow => k_is)
  (case e_NoText => k_is)
  (case e_NoRow => k_is)
  (case e_TooMany => k_is)
  (case z_ValueError => k_is)
  (case z_all => k_is)
  (case z_bool => k_is)
  (case z_int => k_is)
  (case z_isinstance => k_is)
  (case z_len => k_is)
  (case z_list => k_is)
  (case z_max => k_is)
  (case z_min => k_is)
  (case z_range => k_is)
  (case z_set => k_is)
  (case z_sorted => k_is)
  (case z_sum => k_is)
  (case z_tuple => k_is)
  (case x_tab => kernel_rfl)
