import PyProof.Rows.All
import Wide.All
import OpenK.AllK
import Wide.FinOn
import PyProof.EqAt
import PyProof.EqKinds
import PyProof.TupleCall
import PyProof.StationsW
import PyProof.ExcArgs
import PyProof.Seq
import PyProof.TupleIter
import PyProof.RangeIter
import PyProof.WalkInts
import PyProof.SumWalkG
import PyProof.ListRange
import PyProof.Rows.Range3
import OpenK.KDescr
import PyProof.ExcAttrAll.ValueError
import PyProof.Draws
import PyProof.EnumFor
import PyProof.EnumMake
import PyProof.LayNew
import PyProof.Rows.EnumRows
import PyProof.MinMaxWalk
import Lean
import PySem.Challenge.RW_cheapcovers_k82_reaches_of_offers
set_option Elab.async false
set_option linter.all false
set_option maxRecDepth 100000
set_option maxHeartbeats 8000000
set_option compiler.extract_closed false
set_option bootstrap.genMatcherCode false
set_option genSizeOfSpec false
section
open PySem PySem.Spec PyProof PyProof.Rows
abbrev qaa := @List.getElem?_append_right
abbrev qab := @List.getElem?_eq_some_iff
abbrev qac := @List.getElem?_append_left
abbrev qad := @Heap.get?_push_of_some
abbrev qae := @Heap.get?_update_other
abbrev qaf := @List.getElem?_set_self
abbrev qag := @Array.getElem?_toList
abbrev qah := @List.mem_append_right
abbrev qai := @Heap.get?_update_self
abbrev qaj := @List.mem_cons_of_mem
abbrev qak := @List.getElem?_set_ne
abbrev qal := @Heap.get?_push_size
abbrev qam := @Array.length_toList
abbrev qan := @List.mem_cons_self
abbrev qao := @List.length_append
abbrev qap := @Nat.lt_of_lt_of_le
abbrev qaq := @Bool.false_eq_true
abbrev qar := @List.size_toArray
abbrev qas := @Int.toNat_natCast
abbrev qat := @wpAny_newObj_type
abbrev qau := @decide_eq_true_eq
abbrev qav := @List.length_cons
abbrev qaw := @List.not_mem_nil
abbrev qax := @List.length_map
abbrev qay := @List.length_set
abbrev qaz := @List.map_cons
abbrev qaA := @Nat.lt_irrefl
abbrev qaB := @wpAny_holding
abbrev qaC := @Heap.lt_size
abbrev qaD := @Nat.ne_of_lt
abbrev qaE := @Nat.le_trans
abbrev qaF := @List.map_map
abbrev qaG := @Nat.le_refl
abbrev qaH := @wpAny_bind
abbrev qaI := @wpAny_pure
abbrev qaK := @wpAny_mono
abbrev qaM := @wpS_bind
abbrev qaN := @wpS_pure
end
noncomputable def PySem.W.Fast.tw7884384293385930776:Nat:=0
noncomputable def PySem.W.Fast.tw5949470355457627164:Nat:=0
noncomputable def PySem.W.Fast.tw11826391721690321144:Nat:=0
noncomputable def PySem.W.Fast.tw11966803627458015073:Nat:=0
noncomputable def PySem.W.Fast.tw10289535216193248920:Nat:=0
noncomputable def PySem.W.Fast.tw6988630080374062405:Nat:=0
noncomputable def PySem.W.Fast.tw8963748492318672444:Nat:=0
noncomputable def PySem.W.Fast.tw7377433664943062686:Nat:=0
namespace L3
open PySem
noncomputable def ziq (h:Heap) (e:Addr) (cls head:Value):Prop:= ∃ ob vs,h.get? e=some ob/\ob.cls=cls/\ob.dict=none/\ob.data= .fields vs/\vs[2]? = some .none/\vs[1]? = some head
noncomputable def zvQ (h B:Heap) (e:Addr) (head fl:Value):Prop:= ∃ T ot ts,head= .ref T/\B.get? T=none/\T≠e/\h.get? T=some ot/\ot.data= .fields ts/\ts[3]? = some fl
structure Fly (B:Heap) (l:List Env) (e:Addr) (cls fl:Value) (h:Heap):Prop where
 stays:B.StaysIn h
 new:B.get? e=none
 frames:h.FunFrames B l
 exc: ∃ head,ziq h e cls head/\zvQ h B e head fl
theorem znQ (o:Obj) (f):(o.mapFields f).dict=o.dict:=by
 obtain ⟨c,d,t,z⟩:=o
 cases t<;>rfl
section
variable {M:Model} {A:Around} {E:Value->Shared->Prop} {s:Shared} {B:Heap} {env:Env} {outer l:List Env} {L e:Addr} {cls head fl:Value}
theorem zi2 {hd0:Value} {hadNext:Bool} {Q:Unit->Shared->Prop} (hfr:A.frames=some (env::outer)) (hl:s.heap.FunFrames B (env::outer)) (hf:env.frame=some L) (hx:ziq s.heap e cls head)
  (hkb:B.StaysIn s.heap) (hen:B.get? e=none) (q: ∀ h',Fly B (env::outer) e cls (rawInt L) h'->s.heap.UpToSlots h'->Q () {s with heap:=h'}):
  wpAny M A (do let a<-frameOf env;let pl<-entryPlaceOf L hadNext;let b<-EntryCells.newEntry hd0 a .none (rawInt L) .none pl;setField (.ref e) 1 b) Q E s:=by
 obtain ⟨ob,vs,h1,h2,h3,h4,h5,h6⟩:=hx
 have hsz:1<vs.size:=(Array.getElem?_eq_some_iff.mp h6).1
 have nfr:e∉(env::outer).filterMap (·.frame):=fun z=>by
  obtain ⟨_,o,ho,hn⟩:=hl.mem z
  rw [h1] at ho
  cases ho
  exact hn vs h4
 refine qaH (wpAny_frameOf_fun hfr hl hf fun g sg=> ?_)
 refine qaH (wpAny_entryPlaceOf fun pl hpl=> ?_)
 unfold EntryCells.newEntry newFields
 refine qaH (qat ?_ (hpl.sizeOk5 _ _ _ _ _))
 have e1:g.get? e=some ob:=(sg.2.1 e nfr).trans h1
 have kb:B.StaysIn g:=fun b o z=>(sg.2.1 b fun w=>by rw [(hl.mem w).1] at z;cases z).trans (hkb b o z)
 generalize hob:({cls:= .type "traceback",dict:=none,data:= .fields ([hd0,.ref L,.none,rawInt L,.none]++(if pl.isEmpty then List.replicate 6 Value.none else pl)).toArray}:Obj)=tb
 have e2:(g.push tb).get? e=some ob:=qad _ e1
 have ne:g.objs.size≠e:=Nat.ne_of_gt (qaC e1)
 have d3:=Obj.data_mapFields h4 (·.setIfInBounds 1 (Value.ref g.objs.size))
 have e3:=qai (Obj.mapFields (·.setIfInBounds 1 (Value.ref g.objs.size))) e2 (Obj.isFreed_of_fields d3)
 have ft:tb.isFreed=false:=by rw [<- hob];rfl
 have t3:((g.push tb).update e (Obj.mapFields (·.setIfInBounds 1 (Value.ref g.objs.size)))).get? g.objs.size=some tb:=(qae _ _ (Ne.symm ne)).trans (qal g ft)
 have stay: ∀ b o,b≠e->g.get? b=some o->((g.push tb).update e (Obj.mapFields (·.setIfInBounds 1 (Value.ref g.objs.size)))).get? b=some o:=fun b o hb z=>by
  rw [qae _ _ (Ne.symm hb)]
  exact qad _ z
 have nrec: ∀ b o,s.heap.get? b=some o->(∀ ws,o.data≠ .fields ws)->b≠e:=fun b o z hn w=>by
  rw [w,h1] at z
  cases z
  exact hn vs h4
 have ht: ∃ ts,tb.data= .fields ts/\ts[3]? = some (rawInt L):=⟨_,by rw [<- hob],by rcases hpl with rfl | ⟨_,_,_,_,_,_,_,rfl⟩<;>simp⟩
 obtain ⟨ts,ht1,ht2⟩:=ht
 refine wpAny_setField e2 h4 hsz (q _ ⟨fun b o z=>stay b o (fun w=>by rw [w,hen] at z;cases z) (kb b o z),hen,hl.of_keeps fun b o z hn=> ?_,.ref g.objs.size,⟨_,_,e3,(Obj.cls_mapFields _ _).trans h2,(znQ _ _).trans h3,d3,?_,?_⟩,g.objs.size,tb,ts,rfl,kb.fresh,ne,t3,ht1,ht2⟩ fun b o z hn=> ?_)
 ·obtain ⟨sl,hs⟩:=sg.2.2 b o z
  exact ⟨_,stay b _ (nrec b o z hn) hs,rfl⟩
 ·rw [Array.getElem?_setIfInBounds_ne (by decide)]
  exact h5
 ·simp [hsz]
 ·obtain ⟨sl,hs⟩:=sg.2.2 b o z
  exact ⟨sl,stay b _ (nrec b o z hn) hs⟩
theorem zjJ {Q:Unit->Shared->Prop} (hfr:A.frames=some (env::outer)) (hl:s.heap.FunFrames B (env::outer)) (hf:env.frame=some L) (hx:ziq s.heap e cls .none)
  (hkb:B.StaysIn s.heap) (hen:B.get? e=none) (q: ∀ h',Fly B (env::outer) e cls (rawInt L) h'->s.heap.UpToSlots h'->Q () {s with heap:=h'}):wpAny M A (noteFrame (.ref e) env) Q E s:=by
 obtain ⟨ob,vs,h1,h2,h3,h4,h5,h6⟩:=id hx
 unfold noteFrame
 simp only [hf]
 refine qaH (wpAny_field h1 h4 h6 ?_)
 rw [if_neg (by decide)]
 exact zi2 hfr hl hf hx hkb hen q
theorem zlv {Q:Unit->Shared->Prop} (hfr:A.frames=some (env::outer)) (hf:env.frame=some L) (y:Fly B (env::outer) e cls .none s.heap)
  (q: ∀ h',Fly B (env::outer) e cls (rawInt L) h'->s.heap.UpToSlots h'->Q () {s with heap:=h'}):wpAny M A (noteFrame (.ref e) env) Q E s:=by
 obtain ⟨hkb,hen,hl,hd,⟨ob,vs,h1,h2,h3,h4,h5,h6⟩,T,ot,ts,rfl,t1,t2,t3,t4,t5⟩:=y
 unfold noteFrame
 simp only [hf]
 refine qaH (wpAny_field h1 h4 h6 ?_)
 rw [if_pos (show (Value.ref T != Value.none)=true by simp)]
 refine qaH (wpAny_field t3 t4 t5 ?_)
 rw [if_neg (show ¬(Value.none==rawInt L)=true by simp [rawInt])]
 refine qaH (wpAny_setField t3 t4 (Array.getElem?_eq_some_iff.mp t5).1 ?_)
 have oth: ∀ b,b≠T->(s.heap.update T (Obj.mapFields (·.setIfInBounds 3 Value.none))).get? b=s.heap.get? b:=fun b hb=>qae _ _ (Ne.symm hb)
 have nrec: ∀ b o,s.heap.get? b=some o->(∀ ws,o.data≠ .fields ws)->b≠T:=fun b o z hn w=>by
  rw [w,t3] at z
  cases z
  exact hn ts t4
 refine zi2 hfr (hl.of_keeps fun b o z hn=>⟨o,(oth b (nrec b o z hn)).trans z,rfl⟩) hf ⟨ob,vs,(oth e (Ne.symm t2)).trans h1,h2,h3,h4,h5,h6⟩ (fun b o z=>(oth b fun w=>by rw [w,t1] at z;cases z).trans (hkb b o z)) hen fun h' y u=> ?_
 exact q h' y fun b o z hn=>u b o ((oth b (nrec b o z hn)).trans z) hn
theorem zdU {Q:Unit->Shared->Prop} (y:Fly B l e cls fl s.heap) (q: ∀ h',Fly B l e cls .none h'->(∀ b o,s.heap.get? b=some o->(∀ ws,o.data≠ .fields ws)->h'.get? b=some o)->Q () {s with heap:=h'}):
  wpAny M A (setFlight (.ref e) none) Q E s:=by
 obtain ⟨hkb,hen,hl,hd,⟨ob,vs,h1,h2,h3,h4,h5,h6⟩,T,ot,ts,rfl,t1,t2,t3,t4,t5⟩:=y
 have hsz:=(Array.getElem?_eq_some_iff.mp t5).1
 have oth: ∀ b,b≠T->(s.heap.update T (Obj.mapFields (·.setIfInBounds 3 ((none:Option Addr).elim Value.none fun f=>rawInt f)))).get? b=s.heap.get? b:=fun b hb=>qae _ _ (Ne.symm hb)
 have nrec: ∀ b o,s.heap.get? b=some o->(∀ ws,o.data≠ .fields ws)->b≠T:=fun b o z hn w=>by
  rw [w,t3] at z
  cases z
  exact hn ts t4
 unfold setFlight
 refine qaH (wpAny_field h1 h4 h6 ?_)
 rw [if_pos (show (Value.ref T != Value.none)=true by simp)]
 refine wpAny_setField t3 t4 hsz (q _ ⟨fun b o z=>(oth b fun w=>by rw [w,t1] at z;cases z).trans (hkb b o z),hen,hl.of_keeps fun b o z hn=>⟨o,(oth b (nrec b o z hn)).trans z,rfl⟩,
   .ref T,⟨ob,vs,(oth e (Ne.symm t2)).trans h1,h2,h3,h4,h5,h6⟩,T,_,_,rfl,t1,t2,qai _ t3 (Obj.isFreed_of_fields (Obj.data_mapFields t4 _)),Obj.data_mapFields t4 _,by simp [hsz]⟩ fun b o z hn=>(oth b (nrec b o z hn)).trans z)
theorem Fly.tail {h:Heap} (y:Fly B (env::outer) e cls fl h):Fly B outer e cls fl h:=⟨y.stays,y.new,y.frames.2.2,y.exc⟩
theorem zhK {Q:Unit->Shared->Prop} (hfr:A.frames=some (env::outer)) (hl:s.heap.FunFrames B (env::outer)) (hf:env.frame=some L) (hx:ziq s.heap e cls .none)
  (hkb:B.StaysIn s.heap) (hen:B.get? e=none) (q: ∀ h',Fly B outer e cls .none h'->s.heap.UpToSlots h'->Q () {s with heap:=h'}):wpAny M A (leaving env (.ref e)) Q E s:=by
 unfold leaving
 refine qaH (zjJ hfr hl hf hx hkb hen fun h1 y1 u1=> ?_)
 refine zdU (s:={s with heap:=h1}) y1 fun h2 y2 k2=>q h2 y2.tail (u1.trans fun b o z hn=>⟨o.slots,k2 b o z hn⟩)
theorem zmX {Q:Unit->Shared->Prop} (hfr:A.frames=some (env::outer)) (hf:env.frame=some L) (y:Fly B (env::outer) e cls .none s.heap)
  (q: ∀ h',Fly B outer e cls .none h'->s.heap.UpToSlots h'->Q () {s with heap:=h'}):wpAny M A (leaving env (.ref e)) Q E s:=by
 unfold leaving
 refine qaH (zlv hfr hf y fun h1 y1 u1=> ?_)
 refine zdU (s:={s with heap:=h1}) y1 fun h2 y2 k2=>q h2 y2.tail (u1.trans fun b o z hn=>⟨o.slots,k2 b o z hn⟩)
theorem zmZ {h h':Heap} {args:List Value} (x:Heap.MadeExcOf h h' e cls args):ziq h' e cls .none:=by
 obtain ⟨t,h1,_,_⟩:=x.there
 exact ⟨_,_,h1,rfl,rfl,rfl,rfl,rfl⟩
end
theorem zgt:entryFor table "proto.unchain"=some Builtin.«proto.unchain» := entryFor_of_tree (by kernel_rfl)
section
variable {prog:Program} {w:World} {A:Around} {E:Value->Shared->Prop} {s:Shared}
theorem zdK {α:Type} {a h:Addr} {o:Obj} {us:Array Value} {cls head:Value} {Q:α->Shared->Prop} (hh:A.handled=some (.ref h)) (hx:ziq s.heap h cls head) (ho:s.heap.get? a=some o) (hd:o.data= .fields us) (hz:2<us.size) (hne:h≠a)
  (q:E (.ref a) {s with heap:=s.heap.update a (Obj.mapFields (·.setIfInBounds 2 (.ref h)))}):wpAny (model prog w) A (raiseNew (.ref a):Sem α) Q E s:=by
 obtain ⟨ob,vs,h1,h2,h3,h4,h5,h6⟩:=hx
 unfold raiseNew
 refine qaH (wpAny_handled ?_)
 rw [hh]
 dsimp only
 rw [if_pos (show (Value.ref h != Value.ref a)=true by simp [hne])]
 refine qaH (qaB (wpAny_runValue (codeAny_builtin zgt ?_)))
 unfold Builtin.«proto.unchain»
 refine qaH (wpAny_field h1 h4 h5 ?_)
 rw [if_pos (show (Value.none==Value.none)=true from rfl)]
 refine qaH (qaI (qaI ?_))
 refine qaH ?_
 obtain ⟨c,d,dt,sl⟩:=o
 dsimp only at hd
 subst hd
 unfold updateField
 refine qaH (wpAny_load ho ?_)
 dsimp only
 rw [if_pos hz]
 exact wpAny_update ho (wpAny_throw q)
noncomputable def znM (A:Around) (h:Heap):Prop:=A.handled=none\/ ∃ a cls head,A.handled=some (.ref a)/\ziq h a cls head
theorem ziO {it l:Addr} {i:Nat} {items:Array Value} {Q:Option Value->Shared->Prop} (hh:znM A s.heap) (hit:s.heap.IsListIter it l i) (hl:s.heap.IsList l items) (hx:items[i]? = none)
  (k: ∀ h',Heap.ExtBut it s.heap h'->Q none {s with heap:=h'}):wpAny (model prog w) A (pyNext (.ref it)) Q E s:=by
 rcases hh with hh | ⟨ha,cls,head,hh,hX⟩
 ·exact wpAny_pyNext_list_end hh hit hl hx k
 obtain ⟨o,h1,h2,h3⟩:=id hit
 obtain ⟨ol,l1,_,nl,l2⟩:=hl
 unfold pyNext
 refine qaH (wpAny_attempt (wpAny_callSpecial?_slot (name:=Str.ofString "__next__") hit.typeIs slot_listiter_next (wpAny_call_entry slot_listiter_next hit.typeIs entry_listiter_next ?_ (args_listiter_next _))))
 show wpAny _ _ (field (.ref it) 0>>=_) _ _ s
 refine qaH (wpAny_field h1 h3 (x:= .ref l) rfl ?_)
 show wpAny _ _ (if (Value.ref l==Value.none)=true then _ else _) _ _ s
 rw [if_neg (show ¬(Value.ref l==Value.none)=true from nofun)]
 show wpAny _ _ (field (.ref it) 1>>=_) _ _ s
 refine qaH (wpAny_field h1 h3 (x:= .int i 0) rfl ?_)
 show wpAny _ _ (seqItems? (.ref l)>>=_) _ _ s
 refine qaH (wpAny_seqItems l1 l2 ?_)
 simp only [qas,hx]
 refine qaH (wpAny_rule (qaH (wpAny_setField h1 h3 (by simp) ?_)))
 have nit:ha≠it:=fun z=>by
  subst z
  obtain ⟨ob,vs,x1,_,_,x4,x5,x6⟩:=hX
  rw [h1] at x1
  cases x1
  rw [h3] at x4
  cases x4
  simp at x5
 have hX1:ziq (s.heap.update it (Obj.mapFields (·.setIfInBounds 0 Value.none))) ha cls head:=by
  obtain ⟨ob,vs,x1,x2⟩:=hX
  exact ⟨ob,vs,(qae _ _ (Ne.symm nit)).trans x1,x2⟩
 show wpAny _ _ (newExc (.type "StopIteration") []>>=_) _ _ _
 refine qaH ?_
 simp only [newExc,newTuple]
 refine qaH (qat ?_ (by size_fits))
 refine qaH (m:=firstArgMember _ _) (wpAny_of_eq (a:=Value.none) (by first | rfl | (simp only [firstArgMember];rfl)) ?_)
 refine qat ?_ (by size_fits)
 obtain ⟨ob,vs,x1,x2⟩:=hX1
 have y1:=qad {cls:= .type "tuple",dict:=none,data:= .seq [].toArray} x1
 refine zdK (h:=ha) (cls:=cls) (head:=head) hh ⟨ob,vs,qad _ y1,x2⟩ (qal _ rfl) rfl (by simp;omega) (qaD (qaC y1)) ?_
 refine qaH (wpAny_isInstance (T:="StopIteration") (b:=true) ⟨_,qai _ (qal _ rfl) rfl,rfl⟩ isSubtype_stop ?_)
 refine qaI (k _ fun b o hb z=> ?_)
 have z1:(s.heap.update it (Obj.mapFields (·.setIfInBounds 0 Value.none))).get? b=some o:=(qae _ _ (Ne.symm hb)).trans z
 have z2:=qad {cls:= .type "tuple",dict:=none,data:= .seq [].toArray} z1
 rw [qae _ _ (Nat.ne_of_gt (qaC z2))]
 exact qad _ z2
theorem zmi {it l:Addr} {i:Nat} {items:Array Value} {Q:Option Value->Shared->Prop} (hh:znM A s.heap) (hit:s.heap.IsTupleIter it l i) (hl:s.heap.IsTuple l items) (hx:items[i]? = none)
  (k: ∀ h',Heap.ExtBut it s.heap h'->Q none {s with heap:=h'}):wpAny (model prog w) A (pyNext (.ref it)) Q E s:=by
 rcases hh with hh | ⟨ha,cls,head,hh,hX⟩
 ·exact wpAny_pyNext_tuple_end hh hit hl hx k
 obtain ⟨o,h1,h2,h3⟩:=id hit
 obtain ⟨ol,l1,_,nl,l2⟩:=hl
 unfold pyNext
 refine qaH (wpAny_attempt (wpAny_callSpecial?_slot (name:=Str.ofString "__next__") hit.typeIs F.slot_tuple_iterator_next (wpAny_call_entry F.slot_tuple_iterator_next hit.typeIs F.entry_tuple_iterator_next ?_ (F.args_tuple_iterator_next_1 _))))
 show wpAny _ _ (field (.ref it) 0>>=_) _ _ s
 refine qaH (wpAny_field h1 h3 (x:= .ref l) rfl ?_)
 show wpAny _ _ (if (Value.ref l==Value.none)=true then _ else _) _ _ s
 rw [if_neg (show ¬(Value.ref l==Value.none)=true from nofun)]
 show wpAny _ _ (field (.ref it) 1>>=_) _ _ s
 refine qaH (wpAny_field h1 h3 (x:= .int i 0) rfl ?_)
 show wpAny _ _ (seqItems? (.ref l)>>=_) _ _ s
 refine qaH (wpAny_seqItems l1 l2 ?_)
 simp only [qas,hx]
 refine qaH (wpAny_rule (qaH (wpAny_setField h1 h3 (by simp) ?_)))
 have nit:ha≠it:=fun z=>by
  subst z
  obtain ⟨ob,vs,x1,_,_,x4,x5,x6⟩:=hX
  rw [h1] at x1
  cases x1
  rw [h3] at x4
  cases x4
  simp at x5
 have hX1:ziq (s.heap.update it (Obj.mapFields (·.setIfInBounds 0 Value.none))) ha cls head:=by
  obtain ⟨ob,vs,x1,x2⟩:=hX
  exact ⟨ob,vs,(qae _ _ (Ne.symm nit)).trans x1,x2⟩
 show wpAny _ _ (newExc (.type "StopIteration") []>>=_) _ _ _
 refine qaH ?_
 simp only [newExc,newTuple]
 refine qaH (qat ?_ (by size_fits))
 refine qaH (m:=firstArgMember _ _) (wpAny_of_eq (a:=Value.none) (by first | rfl | (simp only [firstArgMember];rfl)) ?_)
 refine qat ?_ (by size_fits)
 obtain ⟨ob,vs,x1,x2⟩:=hX1
 have y1:=qad {cls:= .type "tuple",dict:=none,data:= .seq [].toArray} x1
 refine zdK (h:=ha) (cls:=cls) (head:=head) hh ⟨ob,vs,qad _ y1,x2⟩ (qal _ rfl) rfl (by simp;omega) (qaD (qaC y1)) ?_
 refine qaH (wpAny_isInstance (T:="StopIteration") (b:=true) ⟨_,qai _ (qal _ rfl) rfl,rfl⟩ isSubtype_stop ?_)
 refine qaI (k _ fun b o hb z=> ?_)
 have z1:(s.heap.update it (Obj.mapFields (·.setIfInBounds 0 Value.none))).get? b=some o:=(qae _ _ (Ne.symm hb)).trans z
 have z2:=qad {cls:= .type "tuple",dict:=none,data:= .seq [].toArray} z1
 rw [qae _ _ (Nat.ne_of_gt (qaC z2))]
 exact qad _ z2
theorem zhA {it:Addr} {x left step:Int} {Q:Option Value->Shared->Prop} (hh:znM A s.heap) (hit:IsRangeIter s.heap it x left step) (hleft:left<=0)
  (k: ∀ h',Heap.ExtBut it s.heap h'->Q none {s with heap:=h'}):wpAny (model prog w) A (pyNext (.ref it)) Q E s:=by
 rcases hh with hh | ⟨ha,cls,head,hh,hX⟩
 ·exact wpAny_pyNext_range_end hh hit hleft k
 have hT:s.TypeIs (.ref it) "range_iterator":=⟨_,hit,rfl⟩
 unfold pyNext
 refine qaH (wpAny_attempt (wpAny_callSpecial?_slot (name:=Str.ofString "__next__") hT F.slot_range_iterator_next (wpAny_call_entry F.slot_range_iterator_next hT F.entry_range_iterator_next ?_ (F.args_range_iterator_next_1 _))))
 show wpAny _ _ (field (.ref it) 0>>=_) _ _ s
 refine qaH (wpAny_field hit rfl (x:=rawInt x) rfl ?_)
 show wpAny _ _ (field (.ref it) 1>>=_) _ _ s
 refine qaH (wpAny_field hit rfl (x:=rawInt left) rfl ?_)
 show wpAny _ _ (field (.ref it) 2>>=_) _ _ s
 refine qaH (wpAny_field hit rfl (x:=rawInt step) rfl ?_)
 show wpAny _ _ (if left<=0 then _ else _) _ _ s
 rw [if_pos hleft]
 refine qaH (wpAny_rule (qaH ?_))
 show wpAny _ _ (newExc (.type "StopIteration") []>>=_) _ _ _
 refine qaH ?_
 simp only [newExc,newTuple]
 refine qaH (qat ?_ (by size_fits))
 refine qaH (m:=firstArgMember _ _) (wpAny_of_eq (a:=Value.none) (by first | rfl | (simp only [firstArgMember];rfl)) ?_)
 refine qat ?_ (by size_fits)
 obtain ⟨ob,vs,x1,x2⟩:=hX
 have y1:=qad {cls:= .type "tuple",dict:=none,data:= .seq [].toArray} x1
 refine zdK (h:=ha) (cls:=cls) (head:=head) hh ⟨ob,vs,qad _ y1,x2⟩ (qal _ rfl) rfl (by simp;omega) (qaD (qaC y1)) ?_
 refine qaH (wpAny_isInstance (T:="StopIteration") (b:=true) ⟨_,qai _ (qal _ rfl) rfl,rfl⟩ isSubtype_stop ?_)
 refine qaI (k _ fun b o hb z=> ?_)
 have z2:=qad {cls:= .type "tuple",dict:=none,data:= .seq [].toArray} z
 rw [qae _ _ (Nat.ne_of_gt (qaC z2))]
 exact qad _ z2
theorem ziq.keep {h h':Heap} {a:Addr} {cls head:Value} (x:ziq h a cls head) (k: ∀ o,h.get? a=some o->h'.get? a=some o):ziq h' a cls head:=by
 obtain ⟨ob,vs,x1,x2⟩:=x
 exact ⟨ob,vs,k _ x1,x2⟩
theorem zjB {ha:Addr} {cls head:Value} (hh:A.handled=some (.ref ha)) (I ax:Addr) (hne:ax≠I) (hn2:ha≠I) (items:Array Value):
  Walks prog w A I [I,ax,ha] [I] items.size (fun i v=>items[i]? = some v) (fun i h=>h.IsListIter I ax i/\h.IsList ax items/\ziq h ha cls head) where
 sub:=fun b hb=>by simp at hb;simp [hb]
 frame:=fun _ _ _ st hk=>⟨st.1.at fun o e=>hk I (by simp) o e,st.2.1.at fun o e=>hk ax (by simp) o e,st.2.2.keep fun o e=>hk ha (by simp) o e⟩
 item:=fun i s Q E hi st hQ=>by
  refine wpAny_pyNext_list_item st.1 st.2.1 (x:=items[i]) (by simp [hi]) fun h' hit' hs'=> ?_
  exact hQ _ h' s.toks (by simp [hi]) ⟨hit',st.2.1.extBut hs'.extBut hne,st.2.2.keep fun o e=>hs'.extBut ha o hn2 e⟩ fun b o hb e=>hs'.extBut b o (fun h=>hb (by simp [h])) e
 done:=fun s Q E st hQ=>ziO (.inr ⟨ha,cls,head,hh,st.2.2⟩) st.1 st.2.1 (by simp) fun h' he'=>hQ h' s.toks fun b o hb e=>he' b o (fun h=>hb (by simp [h])) e
 self:=fun _ _ _ _ st hQ=>wpAny_pyIter_listiter st.1 hQ
end
end L3
namespace L2
open PySem PySem.Spec PyProof.Rows
noncomputable abbrev Key:=Sum Int Str
noncomputable def zjM:Key->Value->Bool
 | .inl k,v=>Value.isInt k v
 | .inr x,v=>Value.isStrOf x v
noncomputable def zv4 (w:World):Key->Int
 | .inl k=>hashInt k
 | .inr x=>hashStr w x
theorem zaX: ∀ {k:Key} {v:Value},zjM k v=true->(∃ i t,k=Sum.inl i/\v=Value.int i t)\/(∃ x t,k=Sum.inr x/\v=Value.str x t)
 | .inl i,v,h=>by
  obtain ⟨t,e⟩:=Value.isInt_shape (k:=i) (v:=v) h
  exact .inl ⟨i,t,rfl,e⟩
 | .inr x,v,h=>by
  obtain ⟨t,e⟩:=Value.isStrOf_shape (x:=x) (v:=v) h
  exact .inr ⟨x,t,rfl,e⟩
theorem zlb (i:Int) (t:Tok):zjM (.inl i) (.int i t)=true:=by simp [zjM,Value.isInt]
theorem zlf (x:Str) (t:Tok):zjM (.inr x) (.str x t)=true:=by simp [zjM,Value.isStrOf]
theorem zrQ (a b:Int):decide ((Sum.inl a:Key)=Sum.inl b)=(a==b):=by
 by_cases e:a=b
 ·subst e;simp
 ·have h: ¬(Sum.inl a:Key)=Sum.inl b:=fun q=>e (Sum.inl.inj q)
  rw [decide_eq_false h]
  exact (beq_eq_false_iff_ne.mpr e).symm
theorem zr5 (a b:Str):decide ((Sum.inr a:Key)=Sum.inr b)=decide (a=b):=by
 by_cases e:a=b
 ·subst e;simp
 ·have h: ¬(Sum.inr a:Key)=Sum.inr b:=fun q=>e (Sum.inr.inj q)
  rw [decide_eq_false h,decide_eq_false e]
theorem zse (a:Int) (b:Str):decide ((Sum.inl a:Key)=Sum.inr b)=false:=decide_eq_false (fun q=>nomatch q)
theorem ztd (a:Str) (b:Int):decide ((Sum.inr a:Key)=Sum.inl b)=false:=decide_eq_false (fun q=>nomatch q)
noncomputable def zdX (prog:Program) (w:World):PySem.KeyKind prog w Key where
 is:=zjM
 hash:=zv4 w
 inj:=fun v a b ha hb=>by
  rcases zaX ha with ⟨i,t,rfl,rfl⟩ | ⟨x,t,rfl,rfl⟩
  ·rcases zaX hb with ⟨j,u,rfl,e⟩ | ⟨y,u,rfl,e⟩
   ·injection e with e1 _;rw [e1]
   ·exact nomatch e
  ·rcases zaX hb with ⟨j,u,rfl,e⟩ | ⟨y,u,rfl,e⟩
   ·exact nomatch e
   ·injection e with e1 _;rw [e1]
 byValue:=fun k v h=>by
  rcases zaX h with ⟨i,t,rfl,rfl⟩ | ⟨x,t,rfl,rfl⟩<;>rfl
 pyHash:=fun hv h=>by
  rcases zaX hv with ⟨i,t,rfl,rfl⟩ | ⟨x,t,rfl,rfl⟩
  ·exact wpAny_pyHash_int h
  ·exact wpAny_pyHash_str h
 eqBool:=fun hu hv h=>by
  rcases zaX hu with ⟨i,t,rfl,rfl⟩ | ⟨x,t,rfl,rfl⟩
  ·rcases zaX hv with ⟨j,u,rfl,rfl⟩ | ⟨y,u,rfl,rfl⟩
   ·rw [zrQ] at h;exact wpAny_eqBool_int h
   ·rw [zse] at h;exact SeqAt.EqAt.int_str i t y u _ _ _ _ h
  ·rcases zaX hv with ⟨j,u,rfl,rfl⟩ | ⟨y,u,rfl,rfl⟩
   ·rw [ztd] at h;exact SeqAt.EqAt.str_int x t j u _ _ _ _ h
   ·rw [zr5] at h;exact wpAny_eqBool_str h
 «strs» := fun k x t v h=>by
  rcases zaX h with ⟨i,u,rfl,e⟩ | ⟨y,u,rfl,e⟩
  ·exact nomatch e
  ·injection e with e1 _
   subst e1
   cases v<;>rfl
theorem zid (prog:Program) (w:World) (i:Int) (t:Tok):(zdX prog w).is (.inl i) (.int i t)=true:=zlb i t
theorem zhZ (prog:Program) (w:World) (x:Str) (t:Tok):(zdX prog w).is (.inr x) (.str x t)=true:=zlf x t
inductive V where
 | non | bl (b:Bool) | int (i:Int) | str (x:Str) | byt (b:Array UInt8) | flt (b:UInt64) | ref (a:Addr) | ty (n:String)
 deriving DecidableEq
noncomputable def zbj:V->Value->Prop
 | .non,u=>u=Value.none
 | .bl b,u=>u=Value.bool b
 | .int i,u=> ∃ t,u=Value.int i t
 | .str x,u=> ∃ t,u=Value.str x t
 | .byt b,u=> ∃ t,u=Value.bytes b t
 | .flt b,u=> ∃ t,u=Value.float b t
 | .ref a,u=>u=Value.ref a
 | .ty n,u=>u=Value.type n
noncomputable abbrev zaV:List V->List Value->Prop:=Paired zbj
theorem zaV.length {xs:List V} {us:List Value} (r:zaV xs us):xs.length=us.length:=Paired.length r
theorem zaV.get: ∀ {xs:List V} {us:List Value} {i:Nat} {x:V},zaV xs us->xs[i]? = some x-> ∃ u,us[i]? = some u/\zbj x u
 | _,_,_,_,.nil,e=>by simp at e
 | _,_,0,_,.cons r _,e=>by simp at e;subst e;exact ⟨_,rfl,r⟩
 | _,_,i+1,x,.cons _ t,e=>by
  obtain ⟨u,h1,h2⟩:=zaV.get (i:=i) (x:=x) t (by simpa using e)
  exact ⟨u,by simpa using h1,h2⟩
theorem zaV.set {x:V} {u:Value} (r:zbj x u): ∀ {xs:List V} {us:List Value} (i:Nat),zaV xs us->zaV (xs.set i x) (us.set i u)
 | _,_,_,.nil=> .nil
 | _,_,0,.cons _ t=> .cons r t
 | _,_,i+1,.cons q t=> .cons q (zaV.set r i t)
theorem zaV.append: ∀ {xs ys:List V} {us ws:List Value},zaV xs us->zaV ys ws->zaV (xs++ys) (us++ws)
 | _,_,_,_,.nil,s=>s
 | _,_,_,_,.cons r t,s=> .cons r (zaV.append t s)
theorem zaV.take: ∀ {xs:List V} {us:List Value} (n:Nat),zaV xs us->zaV (xs.take n) (us.take n)
 | _,_,0,_=> .nil
 | _,_,_+1,.nil=> .nil
 | _,_,n+1,.cons r t=> .cons r (zaV.take n t)
theorem zaV.drop: ∀ {xs:List V} {us:List Value} (n:Nat),zaV xs us->zaV (xs.drop n) (us.drop n)
 | _,_,0,r=>r
 | _,_,_+1,.nil=> .nil
 | _,_,n+1,.cons _ t=>zaV.drop n t
noncomputable def zuB:Option V->Option Value->Prop
 | some v,some u=>zbj v u
 | none,none=>True
 | _,_=>False
noncomputable def KV {κ:Type}:List (κ×V)->List (κ×Value)->Prop:=Paired fun (p:κ×V) (q:κ×Value)=>p.1=q.1/\zbj p.2 q.2
noncomputable def kV:Key->V
 | .inl i=> .int i
 | .inr x=> .str x
inductive HO where
 | lst (xs:List V)
 | tup (xs:List V)
 | dK (kvs:List (Key×V)) | dT (kvs:List (List Key×V))
 | set (S:Int->Bool) (n:Nat)
 | ins (C dx:Addr) (fs:List (Str×V))
 | own (x:Addr)
 | xd (fs:List (Str×V))
 | met (f x:Addr)
 | rng (lo hi:Int)
 | frz (o:Obj) (u:HO)
 | tbl (ps:Array Value)
 | ext (φ:Heap->Prop)
noncomputable abbrev Hp:=Addr->Option HO
noncomputable def upd (H:Hp) (a:Addr) (o:HO):Hp:=fun b=>if b=a then some o else H b
theorem zaL {H:Hp} {a:Addr} {o:HO}:upd H a o a=some o:=by unfold upd;rw [if_pos rfl]
theorem zau {H:Hp} {a b:Addr} {o:HO} (h:b≠a):upd H a o b=H b:=by unfold upd;rw [if_neg h]
theorem zaG {H:Hp} {a b:Addr} {o:HO} (h:H a=some o) (h':H b=none):a≠b:=by
 intro e;subst e;rw [h] at h';cases h'
section
variable (P:Program) (w:World)
noncomputable def zbI (H:Hp) (h:Heap) (a:Addr):HO->Prop
 | .lst xs=>xs.length<=sizeLine/\ ∃ (its:List Value) (n:Nat),zaV xs its/\h.get? a=some {cls:= .type "list",data:= .seq its.toArray n}
 | .tup xs=>xs.length<=sizeLine/\ ∃ its:List Value,zaV xs its/\IsTup h a its.toArray
 | .dK kvs=>kvs.length<=sizeLine/\(a==sysModules)=false/\ ∃ vs,KV kvs vs/\h.DictOf (zdX P w) a vs
 | .dT kvs=>kvs.length<=sizeLine/\(a==sysModules)=false/\ ∃ xs:List (List Key×Addr×Value),
   Paired (fun (p:List Key×V) (q:List Key×Addr×Value)=>p.1=q.1/\H q.2.1=some (.tup (p.1.map kV))/\zbj p.2 q.2.2) kvs xs/\
   ∃ o es ep,h.get? a=some o/\o.ExactDict/\o.data= .dict es ep/\es.toList=xs.map (entryOfKey (tupleKind (zdX P w)))/\(xs.map (·.1)).Nodup
 | .set S n=>h.SetOf (intKind P w) a S n
 | .ins C dx fs=>H dx=some (.own a)/\fs.length<=1000/\dx≠a/\h.get? a=some (W.instObj C dx)/\
   ∃ mA,h.Ns1 dx mA/\(∀ f,zuB (fs.lookup f) (mA f))/\PySem.Within mA (fs.map (·.1))
 | .own _=> ∃ o,h.get? a=some o
 | .xd fs=> ∃ mA,h.Ns1 a mA/\ ∀ f,zuB (fs.lookup f) (mA f)
 | .rng lo hi=> ∃ t u v,h.get? a=some {cls:= .type "range",data:= .fields #[.int lo t,.int hi u,.int 1 v]}
 | .frz o u=>h.get? a=some o/\zbI H h a u
 | .tbl ps=>h.get? a=some {cls:= .none,data:= .fields ps}
 | .met f x=>h.get? a=some (W.methodObj (.ref f) (.ref x))
 | .ext φ=>φ h/\(∃ o,h.get? a=some o)/\ ∀ h1 h2:Heap,φ h1->(∀ o,h1.get? a=some o->h2.get? a=some o)->φ h2
noncomputable def HOk (H:Hp) (h:Heap):Prop:= ∀ a o,H a=some o->zbI P w H h a o
end
section
variable {P:Program} {w:World} {H H':Hp} {h h':Heap} {a:Addr} {o:HO}
theorem zbI.lt (x:zbI P w H h a o):a<h.objs.size:=by
 cases o with
 | lst xs=>obtain ⟨_,_,_,_,e⟩:=x;exact qaC e
 | tup xs=>obtain ⟨_,_,_,p⟩:=x;exact p.lt
 | dK kvs=>obtain ⟨_,_,_,_,o,_,_,e,_⟩:=x;exact qaC e
 | dT kvs=>obtain ⟨_,_,_,_,o,_,_,e,_⟩:=x;exact qaC e
 | set S n=>obtain ⟨o,_,_,_,e,_⟩:=x;exact qaC e
 | ins C dx fs=>obtain ⟨_,_,_,e,_⟩:=x;exact qaC e
 | own y=>obtain ⟨_,e⟩:=x;exact qaC e
 | xd fs=>obtain ⟨_,⟨_,_,_,e,_⟩,_⟩:=x;exact qaC e
 | rng lo hi=>obtain ⟨_,_,_,e⟩:=x;exact qaC e
 | frz ob u=>obtain ⟨e,_⟩:=x;exact qaC e
 | tbl ps=>exact qaC (show h.get? a=some _ from x)
 | met f y=>exact qaC (show h.get? a=some _ from x)
 | ext φ=>obtain ⟨_,⟨_,e⟩,_⟩:=x;exact qaC e
theorem Paired.mapP {α β:Type} {F G:α->β->Prop}: ∀ {l₁:List α} {l₂:List β},Paired F l₁ l₂->(∀ a b,F a b->G a b)->Paired G l₁ l₂
 | _,_,.nil,_=> .nil
 | _,_,.cons r t,f=> .cons (f _ _ r) (Paired.mapP t f)
theorem zbI.stay (x:zbI P w H h a o) (k: ∀ b u,(b=a\/H b=some (.own a))->h.get? b=some u->h'.get? b=some u)
  (ho: ∀ b,H b=some (.own a)->H' b=some (.own a)) (ht: ∀ b xs,H b=some (.tup xs)->H' b=some (.tup xs)):zbI P w H' h' a o:=by
 induction o with
 | lst xs=>obtain ⟨z,its,n,r,e⟩:=x;exact ⟨z,its,n,r,k _ _ (.inl rfl) e⟩
 | tup xs=>obtain ⟨z,its,r,ob,e,c⟩:=x;exact ⟨z,its,r,ob,k _ _ (.inl rfl) e,c⟩
 | dK kvs=>obtain ⟨z,y,vs,r,ob,es,ep,e,c⟩:=x;exact ⟨z,y,vs,r,ob,es,ep,k _ _ (.inl rfl) e,c⟩
 | dT kvs=>
  obtain ⟨z,y,xs,r,ob,es,ep,e,c⟩:=x
  exact ⟨z,y,xs,Paired.mapP r fun p q z=>⟨z.1,ht _ _ z.2.1,z.2.2⟩,ob,es,ep,k _ _ (.inl rfl) e,c⟩
 | set S n=>obtain ⟨ob,es,ep,t,e,c⟩:=x;exact ⟨ob,es,ep,t,k _ _ (.inl rfl) e,c⟩
 | ins C dx fs=>
  obtain ⟨d,z,ne,e,mA,⟨od,es,ep,e2,c⟩,r⟩:=x
  exact ⟨ho _ d,z,ne,k _ _ (.inl rfl) e,mA,⟨od,es,ep,k _ _ (.inr d) e2,c⟩,r⟩
 | own y=>obtain ⟨ob,e⟩:=x;exact ⟨ob,k _ _ (.inl rfl) e⟩
 | xd fs=>obtain ⟨mA,⟨od,es,ep,e,c⟩,r⟩:=x;exact ⟨mA,⟨od,es,ep,k _ _ (.inl rfl) e,c⟩,r⟩
 | rng lo hi=>obtain ⟨t,u,v,e⟩:=x;exact ⟨t,u,v,k _ _ (.inl rfl) e⟩
 | frz ob u ih=>obtain ⟨e,q⟩:=x;exact ⟨k _ _ (.inl rfl) e,ih q⟩
 | tbl ps=>
  have e:h.get? a=some {cls:= .none,data:= .fields ps}:=x
  show h'.get? a=some {cls:= .none,data:= .fields ps}
  exact k a _ (.inl rfl) e
 | met f y=>
  have e:h.get? a=some (W.methodObj (.ref f) (.ref y)):=x
  show h'.get? a=some (W.methodObj (.ref f) (.ref y))
  exact k a _ (.inl rfl) e
 | ext φ=>obtain ⟨p,⟨o,e⟩,st⟩:=x;exact ⟨st _ _ p fun o q=>k _ _ (.inl rfl) q,⟨o,k _ _ (.inl rfl) e⟩,st⟩
theorem HOk.lt (x:HOk P w H h) (e:H a=some o):a<h.objs.size:=(x a o e).lt
theorem HOk.fresh (x:HOk P w H h) (e:h.objs.size<=a):H a=none:=by
 cases q:H a with
 | none=>rfl
 | some u=>exact absurd (qap (x.lt q) e) (qaA _)
theorem HOk.kept (x:HOk P w H h) (k: ∀ b u,h.get? b=some u->h'.get? b=some u):HOk P w H h':=fun a o e=>
 (x a o e).stay (fun b u _ q=>k b u q) (fun _ q=>q) fun _ _ q=>q
theorem HOk.laid (x:HOk P w H h) (k: ∀ b u,h.get? b=some u->h'.get? b=some u) (hp:h.objs.size<=a) (new:zbI P w (upd H a o) h' a o):HOk P w (upd H a o) h':=fun b u e=>by
 have hn:=x.fresh hp
 by_cases hb:b=a
 ·subst hb;rw [zaL] at e;cases e;exact new
 ·rw [zau hb] at e
  exact (x b u e).stay (fun c v _ q=>k c v q) (fun c q=>by rw [zau (zaG q hn)];exact q) fun c xs q=>by rw [zau (zaG q hn)];exact q
end
noncomputable def Rd (H:Hp) (a:Addr) (u:HO):Prop:=H a=some u\/ ∃ o,H a=some (.frz o u)
theorem Rd.of {H:Hp} {a:Addr} {u:HO} (h:H a=some u):Rd H a u:= .inl h
theorem Rd.ok {P:Program} {w:World} {H:Hp} {h:Heap} {a:Addr} {u:HO} (r:Rd H a u) (x:HOk P w H h):zbI P w H h a u:=by
 rcases r with r | ⟨o,r⟩
 ·exact x a u r
 ·obtain ⟨_,q⟩:=x a _ r
  exact q
noncomputable def Mut:Option HO->Prop
 | some (.lst _)=>True
 | some (.dK _)=>True
 | some (.dT _)=>True
 | some (.set _ _)=>True
 | some (.ins _ _ _)=>True
 | some (.ext _)=>True
 | _=>False
section
variable {P:Program} {w:World} {H:Hp} {h h':Heap} {x e:Addr} {o':HO}
theorem HOk.write (ok:HOk P w H h) (mu:Mut (H x)) (he:e=x\/H e=some (.own x)) (k: ∀ b u,b≠e->h.get? b=some u->h'.get? b=some u) (heo: ∃ u,h'.get? e=some u)
  (new:zbI P w (upd H x o') h' x o'):HOk P w (upd H x o') h':=fun b u q=>by
 have nown: ∀ c y,H c=some (.own y)->c≠x:=fun c y r z=>by subst z;rw [r] at mu;exact mu
 have ntup: ∀ c xs,H c=some (.tup xs)->c≠x:=fun c xs r z=>by subst z;rw [r] at mu;exact mu
 by_cases hb:b=x
 ·subst hb;rw [zaL] at q;cases q;exact new
 ·rw [zau hb] at q
  by_cases hbe:b=e
  ·have q':H b=some (.own x):=by
    rcases he with z | z
    ·exact absurd (hbe.trans z) hb
    ·rw [hbe];exact z
   rw [q] at q';cases q'
   obtain ⟨v,hv⟩:=heo
   exact ⟨v,by rw [hbe];exact hv⟩
  ·refine (ok b u q).stay (fun c v hc r=>k c v ?_ r) (fun c r=>by rw [zau (nown c b r)];exact r) fun c xs r=>by rw [zau (ntup c xs r)];exact r
   rcases hc with rfl | hc
   ·exact hbe
   ·rintro rfl
    rcases he with z | z
    ·exact nown c b hc z
    ·rw [hc] at z;cases z;exact hb rfl
end
structure Un (fs ex:List Addr) (H H':Hp) (h h':Heap):Prop where
 keep: ∀ b o,h.get? b=some o->H b=none->b∉fs->b∉ex->h'.get? b=some o
 slot: ∀ b o,h.get? b=some o->H b=none->b∈fs->b∉ex-> ∃ sl,h'.get? b=some {o with slots:=sl}
 free: ∀ b o,h.get? b=some o->H b=none->b∉ex->H' b=none
 there: ∀ b o,h.get? b=some o->b∉ex-> ∃ o',h'.get? b=some o'
 tups: ∀ b xs,H b=some (.tup xs)->H' b=some (.tup xs)
 frzs: ∀ b o u,H b=some (.frz o u)->H' b=some (.frz o u)
 tbls: ∀ b ps,H b=some (.tbl ps)-> ∃ more,H' b=some (.tbl (ps++more))
section
variable {fs fs' ex ex':List Addr} {H H1 H2:Hp} {h h1 h2 h':Heap} {a x e:Addr} {o:HO}
theorem Un.any (u:Un fs ex H H1 h h1) {b:Addr} {ob:Obj} (q:h.get? b=some ob) (n:H b=none) (hx:b∉ex): ∃ sl,h1.get? b=some {ob with slots:=sl}:=by
 by_cases hb:b∈fs
 ·exact u.slot b ob q n hb hx
 ·exact ⟨ob.slots,u.keep b ob q n hb hx⟩
theorem Un.trans (a:Un fs ex H H1 h h1) (b:Un fs ex H1 H2 h1 h2):Un fs ex H H2 h h2 where
 keep:=fun c ob q n hc hx=>b.keep c ob (a.keep c ob q n hc hx) (a.free c ob q n hx) hc hx
 slot:=fun c ob q n hc hx=>by
  obtain ⟨sl,e1⟩:=a.slot c ob q n hc hx
  obtain ⟨sl',e2⟩:=b.slot c _ e1 (a.free c ob q n hx) hc hx
  exact ⟨sl',e2⟩
 free:=fun c ob q n hx=>by
  obtain ⟨o',e1⟩:=a.there c ob q hx
  exact b.free c o' e1 (a.free c ob q n hx) hx
 there:=fun c ob q hx=>by
  obtain ⟨o',e1⟩:=a.there c ob q hx
  exact b.there c o' e1 hx
 tups:=fun c xs q=>b.tups c xs (a.tups c xs q)
 frzs:=fun c ob xs q=>b.frzs c ob xs (a.frzs c ob xs q)
 tbls:=fun c ps q=>by
  obtain ⟨m1,e1⟩:=a.tbls c ps q
  obtain ⟨m2,e2⟩:=b.tbls c _ e1
  exact ⟨m1++m2,by rw [e2,Array.append_assoc]⟩
theorem Un.kept (k: ∀ b u,h.get? b=some u->h'.get? b=some u):Un fs ex H H h h':=
 ⟨fun b ob q _ _ _=>k b ob q,fun b ob q _ _ _=>⟨ob.slots,k b ob q⟩,fun _ _ _ n _=>n,fun b ob q _=>⟨ob,k b ob q⟩,fun _ _ q=>q,fun _ _ _ q=>q,fun _ ps q=>⟨#[],by rw [q];simp⟩⟩
theorem Un.refl:Un fs ex H H h h:=Un.kept fun _ _ q=>q
theorem Un.laid (k: ∀ b u,h.get? b=some u->h'.get? b=some u) (hp:h.objs.size<=a) (hn:H a=none):Un fs ex H (upd H a o) h h' where
 keep:=fun b u q _ _ _=>k b u q
 slot:=fun b u q _ _ _=>⟨u.slots,k b u q⟩
 free:=fun b u q n _=>by rw [zau (qaD (qap (qaC q) hp))];exact n
 there:=fun b u q _=>⟨u,k b u q⟩
 tups:=fun b xs q=>by rw [zau (zaG q hn)];exact q
 frzs:=fun b u xs q=>by rw [zau (zaG q hn)];exact q
 tbls:=fun b ps q=>⟨#[],by rw [zau (zaG q hn),q];simp⟩
theorem Un.write (mu:Mut (H x)) (he:e=x\/H e=some (.own x)) (k: ∀ b u,b≠e->h.get? b=some u->h'.get? b=some u) (heo: ∃ u,h'.get? e=some u):Un fs ex H (upd H x o) h h':=by
 have hx: ∀ b,H b=none->b≠x:=fun b n z=>by subst z;rw [n] at mu;exact mu
 have hb: ∀ b,H b=none->b≠e:=fun b n z=>by
  subst z
  rcases he with r | r
  ·exact hx b n r
  ·rw [n] at r;cases r
 have hm: ∀ b u,H b=some u-> ¬Mut (some u)->b≠x:=fun b u q nm z=>by subst z;rw [q] at mu;exact nm mu
 refine ⟨fun b u q n _ _=>k b u (hb b n) q,fun b u q n _ _=>⟨u.slots,k b u (hb b n) q⟩,fun b u q n _=>by rw [zau (hx b n)];exact n,fun b u q _=> ?_,
   fun b xs q=>by rw [zau (hm b _ q fun z=>z)];exact q,fun b u xs q=>by rw [zau (hm b _ q fun z=>z)];exact q,fun b ps q=>⟨#[],by rw [zau (hm b _ q fun z=>z),q];simp⟩⟩
 by_cases hbe:b=e
 ·subst hbe;exact heo
 ·exact ⟨u,k b u hbe q⟩
theorem Un.mono (u:Un fs ex H H1 h h1) (hs: ∀ b∈fs,b∈fs') (hx: ∀ b∈ex,b∈ex'):Un fs' ex' H H1 h h1:=
 ⟨fun b ob q n hb he=>u.keep b ob q n (fun z=>hb (hs b z)) fun z=>he (hx b z),fun _ _ q n _ he=>u.any q n fun z=>he (hx _ z),fun b ob q n he=>u.free b ob q n fun z=>he (hx b z),fun b ob q he=>u.there b ob q fun z=>he (hx b z),u.tups,u.frzs,u.tbls⟩
end
noncomputable def trk (h:Heap) (H:Hp):List Addr:=(List.range h.objs.size).filter fun a=>(H a).isSome
noncomputable def zog (h:Heap) (H:Hp):Heap:=W.hideAll h (trk h H)
theorem zkE (h:Heap) (H:Hp):(zog h H).objs.size=h.objs.size:=W.hideAll_size _ _
theorem znx {h:Heap} {H:Hp} {b:Addr} {o:Obj} (e:h.get? b=some o) (n:H b=none):(zog h H).get? b=some o:=
 W.hideAll_get _ e fun hm=>by
  have q:(H b).isSome=true:=(List.mem_filter.mp hm).2
  rw [n] at q;simp at q
theorem zqt {h:Heap} {H:Hp} {b:Addr} {o:Obj} (e:(zog h H).get? b=some o):h.get? b=some o/\H b=none:=by
 have e':h.get? b=some o:=W.of_hideAll (trk h H) e
 refine ⟨e',?_⟩
 cases q:H b with
 | none=>rfl
 | some x=>
  have hm:b∈trk h H:=List.mem_filter.mpr ⟨List.mem_range.mpr (qaC e'),by simp [q]⟩
  have z:(zog h H).get? b=none:=W.hideAll_none (trk h H) hm
  rw [z] at e;cases e
noncomputable def zpU (g h:Heap) (L:Addr):List (Addr×Obj):=(List.range h.objs.size).filterMap fun a=>if a=L\/(g.get? a).isSome=true then none else (h.get? a).map fun o=>(a,o)
noncomputable def rest (g h:Heap) (L d:Addr):List (Addr×Obj):=(zpU g h L).filter fun p=>decide (p.1≠d)
structure Mod (K:W.Frag) (mg:Str->Option Value) (base:Heap):Prop where
 kin:K.In base
 glob:base.Ns mainGlobals mg
 blt: ∃ mb,base.Ns builtinsNs mb/\ ∀ x:Str,x≠"__name__"->mb x=bootBuiltins x
 nolimit:base.NoLimit
structure Cx where
 prog:Program
 w:World
 K:W.Frag
 mg:Str->Option Value
 base:Heap
 A:Around
 N:List Str
 s₀:Shared
 H₀:Hp
 env:Env
 outer:List Env
 stack:List Env
 ex:List Addr
 fn:Str->Bool
 calm:Bool
 pn:List (Addr×Obj)
 xe:Value->Shared->Prop
noncomputable def frs (l:List Env):List Addr:=l.filterMap (·.frame)
noncomputable abbrev Cx.fs (X:Cx):List Addr:=frs X.outer
noncomputable def Vis (sc:Scope) (x:Str):Prop:=sc.names.lookup x=some .local\/sc.names.lookup x=some .cell\/sc.names.lookup x=some .free
noncomputable def Loc (sc:Scope) (x:Str):Prop:=sc.names.lookup x=some .local\/sc.names.lookup x=some .cell
noncomputable def zvK (env:Env) (h:Heap) (m:Str->Option Value) (x:Str) (u:Value):Prop:=
 (env.kindOf x=some .local/\m x=some u)\/((env.kindOf x=some .cell\/env.kindOf x=some .free)/\ ∃ c,env.cells.lookup x=some c/\h.IsCell c (some u))
noncomputable def zhj (A:Around) (H:Hp):Prop:=A.handled=none\/ ∃ a o cls head vs,A.handled=some (.ref a)/\H a=some (.frz o (.own 0))/\o.cls=cls/\o.dict=none/\o.data= .fields vs/\vs[2]? = some .none/\vs[1]? = some head
structure Cx.Ok (X:Cx):Prop where
 mod:Mod X.K X.mg X.base
 kind:X.env.scope.kind= .function
 glob:X.env.globals=mainGlobals
 blt:X.env.builtins=builtinsNs
 above:X.s₀.heap.objs.size<=X.env.locals
 inj: ∀ x y c,X.env.cells.lookup x=some c->X.env.cells.lookup y=some c->x=y
 has: ∀ x,(X.env.kindOf x=some .cell\/X.env.kindOf x=some .free)-> ∃ c,X.env.cells.lookup x=some c
 cab: ∀ x c,X.fn x=true->X.env.cells.lookup x=some c->X.s₀.heap.objs.size<=c
 hd:X.calm=true->X.A.handled=none
 hx:zhj X.A X.H₀
 frames:X.A.frames=some X.stack
 stk:X.stack=X.outer\/(X.stack=X.env::X.outer/\X.env.frame=some X.env.locals)
 exf: ∀ b∈X.ex,b≠X.env.locals/\ ∀ x c,X.env.cells.lookup x=some c->c≠b
 bs: ∀ b o,X.base.get? b=some o->X.s₀.heap.get? b=some o/\X.H₀ b=none
 bsz:X.base.objs.size<=X.s₀.heap.objs.size
 noex: ∀ b o,X.base.get? b=some o->b∉X.ex
 exfs: ∀ b∈X.ex,b∉X.fs
 funs:X.s₀.heap.FunFrames X.base X.outer
 frf: ∀ b∈X.fs,X.H₀ b=none
structure Inv (X:Cx) (pins:List (Addr×Obj)) (σ:List (Option V)) (H:Hp) (s:Shared):Prop where
 ok:X.Ok
 os:s.os=X.s₀.os
 bare:AllBare s.gens
 base:Un X.fs X.ex X.H₀ H X.s₀.heap s.heap
 loc: ∃ m,s.heap.Ns X.env.locals m/\ ∀ (i:Nat) (x:Str) (v:V),X.N[i]? = some x->σ[i]? = some (some v)->Vis X.env.scope x-> ∃ u,zbj v u/\zvK X.env s.heap m x u
 cell: ∀ x c,X.env.cells.lookup x=some c-> ∃ v,s.heap.IsCell c v
 free:H X.env.locals=none
 freeC: ∀ x c,X.env.cells.lookup x=some c->H c=none
 pin: ∀ p∈X.pn++pins,s.heap.get? p.1=some p.2/\H p.1=none/\p.1≠X.env.locals/\p.1∉X.fs/\ ∀ v,p.2.data≠ .cell v
 hok:HOk X.prog X.w H s.heap
 len:σ.length=X.N.length
section
variable {X:Cx} {pins:List (Addr×Obj)} {σ:List (Option V)} {H H':Hp} {s:Shared} {h':Heap}
theorem Cx.Ok.nofr (ok:X.Ok) {b:Addr} {o:Obj} (e:X.base.get? b=some o):b∉X.fs:=fun hb=>by
 have:=(ok.funs.mem hb).1
 rw [e] at this;cases this
theorem Inv.bs (I:Inv X pins σ H s): ∀ b o,X.base.get? b=some o->s.heap.get? b=some o/\H b=none:=fun b o e=>
 ⟨I.base.keep b o (I.ok.bs b o e).1 (I.ok.bs b o e).2 (I.ok.nofr e) (I.ok.noex b o e),I.base.free b o (I.ok.bs b o e).1 (I.ok.bs b o e).2 (I.ok.noex b o e)⟩
theorem Inv.bk (I:Inv X pins σ H s): ∀ b o,X.base.get? b=some o->s.heap.get? b=some o:=fun b o e=>(I.bs b o e).1
theorem Inv.mod (I:Inv X pins σ H s):Mod X.K X.mg X.base:=I.ok.mod
theorem Inv.kIn (I:Inv X pins σ H s):X.K.In s.heap:=I.ok.mod.kin.keeps I.bk
theorem Inv.nolimit (I:Inv X pins σ H s):s.heap.NoLimit:=I.ok.mod.nolimit.keeps I.bk
theorem Inv.fr (I:Inv X pins σ H s): ∃ m,Fr X.base X.env.locals s.heap m:=
 let ⟨m,hn,_⟩:=I.loc
 ⟨m,hn,I.bk,qaE I.ok.bsz I.ok.above⟩
theorem Inv.lt (I:Inv X pins σ H s):X.env.locals<s.heap.objs.size:=let ⟨_,hn,_⟩:=I.loc;hn.lt
theorem Inv.sz (I:Inv X pins σ H s):X.s₀.heap.objs.size<=s.heap.objs.size:=qaE I.ok.above (Nat.le_of_lt I.lt)
theorem Inv.nofs (I:Inv X pins σ H s) {a:Addr} (h:s.heap.objs.size<=a):a∉X.fs:=fun hb=>by
 obtain ⟨_,o,ho,_⟩:=I.ok.funs.mem hb
 exact absurd (qap (qaC ho) (qaE I.sz h)) (qaA _)
theorem Inv.cne (I:Inv X pins σ H s): ∀ x c,X.env.cells.lookup x=some c->c≠X.env.locals:=fun x c e z=>by
 obtain ⟨v,o,ho,hd⟩:=I.cell x c e
 obtain ⟨m,⟨o',es,ep,ho',hd',_⟩,_⟩:=I.loc
 rw [z,ho'] at ho;cases ho;rw [hd'] at hd;cases hd
theorem Inv.funs (I:Inv X pins σ H s):s.heap.FunFrames X.base X.outer:=by
 have all: ∀ (l:List Env),(∀ b∈frs l,b∈X.fs)->X.s₀.heap.FunFrames X.base l->s.heap.FunFrames X.base l:=by
  intro l
  induction l with
  | nil=>intro _ _;trivial
  | cons env r ih=>
   intro hs hl
   obtain ⟨hk,⟨L,o,hf,hn,ho,hd⟩,hr⟩:=hl
   have hL:L∈X.fs:=hs L (by unfold frs;rw [List.filterMap_cons,hf];exact qan)
   obtain ⟨sl,e⟩:=I.base.slot L o ho (I.ok.frf L hL) hL fun z=>I.ok.exfs L z hL
   exact ⟨hk,⟨L,_,hf,hn,e,hd⟩,ih (fun b hb=>hs b (by unfold frs;rw [List.filterMap_cons,hf];exact qaj _ hb)) hr⟩
 exact all X.outer (fun _ hb=>hb) I.ok.funs
theorem Inv.stack (I:Inv X pins σ H s):s.heap.FunFrames X.base X.stack:=by
 rcases I.ok.stk with e | ⟨e,hf⟩
 ·rw [e];exact I.funs
 ·rw [e]
  obtain ⟨m,hn,_⟩:=I.loc
  refine .cons (by rw [I.ok.kind];decide) hf hn ?_ I.funs
  exact Heap.get?_none_of_le (qaE I.ok.bsz I.ok.above)
theorem Inv.stkSub (I:Inv X pins σ H s): ∀ b∈frs X.stack,b∈X.env.locals::X.fs:=fun b hb=>by
 rcases I.ok.stk with e | ⟨e,hf⟩
 ·rw [e] at hb;exact qaj _ hb
 ·rw [e] at hb
  unfold frs at hb
  rw [List.filterMap_cons,hf] at hb
  exact hb
theorem Inv.stkFree (I:Inv X pins σ H s): ∀ b∈frs X.stack,H b=none:=fun b hb=>by
 rcases List.mem_cons.mp (I.stkSub b hb) with e | hb
 ·rw [e];exact I.free
 ·obtain ⟨_,o,ho,_⟩:=I.ok.funs.mem hb
  exact I.base.free b o ho (I.ok.frf b hb) fun z=>I.ok.exfs b z hb
theorem Inv.step {g':Array GenState} {t':Nat} {d':Drawn} {ch:List Addr} (I:Inv X pins σ H s)
  (hch: ∀ b∈ch,(b∈X.ex\/X.s₀.heap.objs.size<=b)/\b≠X.env.locals/\(∀ x c,X.env.cells.lookup x=some c->c≠b)/\ ∀ p∈X.pn++pins,p.1≠b)
  (keep: ∀ b o,b≠X.env.locals->b∉X.fs->b∉ch->s.heap.get? b=some o->H b=none->h'.get? b=some o)
  (slot: ∀ b o,b≠X.env.locals->b∈X.fs->b∉ch->s.heap.get? b=some o->H b=none-> ∃ sl,h'.get? b=some {o with slots:=sl}) (free: ∀ b o,b∉ch->s.heap.get? b=some o->H b=none->H' b=none)
  (there: ∀ b o,b∉ch->s.heap.get? b=some o-> ∃ o',h'.get? b=some o')
  (tups: ∀ b xs,H b=some (.tup xs)->H' b=some (.tup xs)) (frzs: ∀ b o u,H b=some (.frz o u)->H' b=some (.frz o u)) (tbls: ∀ b ps,H b=some (.tbl ps)-> ∃ more,H' b=some (.tbl (ps++more)))
  (ns: ∀ m,s.heap.Ns X.env.locals m->h'.Ns X.env.locals m) (hok:HOk X.prog X.w H' h') (hg:AllBare g'):
  Inv X pins σ H' {s with heap:=h',gens:=g',drawn:=d',toks:=t'}:=by
 have neL: ∀ b o,X.s₀.heap.get? b=some o->b≠X.env.locals:=fun b o e=>qaD (qap (qaC e) I.ok.above)
 have neC: ∀ b o,X.s₀.heap.get? b=some o->b∉X.ex->b∉ch:=fun b o e hx hb=>by
  rcases (hch b hb).1 with z | z
  ·exact hx z
  ·exact absurd (qap (qaC e) z) (qaA _)
 have cellK: ∀ x c,X.env.cells.lookup x=some c-> ∀ v,s.heap.IsCell c v->h'.IsCell c v:=fun x c e v ⟨o,ho,hd⟩=>by
  have nch:c∉ch:=fun z=>(hch c z).2.2.1 x c e rfl
  by_cases hc:c∈X.fs
  ·obtain ⟨sl,q⟩:=slot c o (I.cne x c e) hc nch ho (I.freeC x c e)
   exact ⟨_,q,hd⟩
  ·exact ⟨o,keep c o (I.cne x c e) hc nch ho (I.freeC x c e),hd⟩
 refine ⟨I.ok,I.os,hg,⟨fun b o e n hb hx=> ?_,fun b o e n hb hx=> ?_,fun b o e n hx=> ?_,fun b o e hx=> ?_,fun b xs e=>tups b xs (I.base.tups b xs e),fun b o xs e=>frzs b o xs (I.base.frzs b o xs e),fun b ps e=> ?_⟩,?_,fun x c e=> ?_,?_,fun x c e=> ?_,fun p hp=> ?_,hok,I.len⟩
 ·exact keep b o (neL b o e) hb (neC b o e hx) (I.base.keep b o e n hb hx) (I.base.free b o e n hx)
 ·obtain ⟨sl,e1⟩:=I.base.slot b o e n hb hx
  obtain ⟨sl',e2⟩:=slot b _ (neL b o e) hb (neC b o e hx) e1 (I.base.free b o e n hx)
  exact ⟨sl',e2⟩
 ·obtain ⟨o',e1⟩:=I.base.there b o e hx
  exact free b o' (neC b o e hx) e1 (I.base.free b o e n hx)
 ·obtain ⟨o',e1⟩:=I.base.there b o e hx
  exact there b o' (neC b o e hx) e1
 ·obtain ⟨m1,e1⟩:=I.base.tbls b ps e
  obtain ⟨m2,e2⟩:=tbls b _ e1
  exact ⟨m1++m2,by rw [e2,Array.append_assoc]⟩
 ·obtain ⟨m,hn,hl⟩:=I.loc
  refine ⟨m,ns m hn,fun i x v e1 e2 e3=> ?_⟩
  obtain ⟨u,r,l⟩:=hl i x v e1 e2 e3
  refine ⟨u,r,?_⟩
  rcases l with l | ⟨k,c,e,z⟩
  ·exact .inl l
  ·exact .inr ⟨k,c,e,cellK x c e _ z⟩
 ·obtain ⟨v,z⟩:=I.cell x c e
  exact ⟨v,cellK x c e v z⟩
 ·obtain ⟨m,⟨o,_,_,ho,_⟩,_⟩:=I.loc
  exact free _ o (fun z=>(hch _ z).2.1 rfl) ho I.free
 ·obtain ⟨v,o,ho,hd⟩:=I.cell x c e
  exact free c o (fun z=>(hch c z).2.2.1 x c e rfl) ho (I.freeC x c e)
 ·obtain ⟨e,n,ne,nf,d⟩:=I.pin p hp
  have nch:p.1∉ch:=fun z=>(hch p.1 z).2.2.2 p hp rfl
  exact ⟨keep p.1 p.2 ne nf nch e n,free p.1 p.2 nch e n,ne,nf,d⟩
theorem Inv.un {t':Nat} (I:Inv X pins σ H s) (u:Un X.fs [] H H' s.heap h') (hok:HOk X.prog X.w H' h'):Inv X pins σ H' {s with heap:=h',toks:=t'}:=by
 obtain ⟨m,⟨o,es,ep,ho,r⟩,_⟩:=id I.loc
 obtain ⟨sl,hL⟩:=u.any ho I.free (by simp)
 exact I.step (g':=s.gens) (d':=s.drawn) (ch:=[]) (fun _ z=>nomatch z) (fun b o _ hb _ e n=>u.keep b o e n hb (by simp)) (fun b o _ hb _ e n=>u.slot b o e n hb (by simp)) (fun b o _ e n=>u.free b o e n (by simp)) (fun b o _ e=>u.there b o e (by simp)) u.tups u.frzs u.tbls (fun m' hm=>by
   obtain ⟨o',es',ep',ho',r'⟩:=hm
   rw [ho] at ho';cases ho'
   exact ⟨_,es',ep',hL,r'⟩) hok I.bare
theorem Inv.call {g':Array GenState} {t':Nat} {d':Drawn} {ch:List Addr} (I:Inv X pins σ H s) (u:Un (frs X.stack) ch H H' s.heap h') (hok:HOk X.prog X.w H' h') (hg:AllBare g')
  (hch: ∀ b∈ch,(b∈X.ex\/X.s₀.heap.objs.size<=b)/\b≠X.env.locals/\(∀ x c,X.env.cells.lookup x=some c->c≠b)/\ ∀ p∈X.pn++pins,p.1≠b):
  Inv X pins σ H' {s with heap:=h',gens:=g',drawn:=d',toks:=t'}:=by
 obtain ⟨m,⟨o,es,ep,ho,r⟩,_⟩:=id I.loc
 obtain ⟨sl,hL⟩:=u.any ho I.free fun z=>(hch _ z).2.1 rfl
 exact I.step (ch:=ch) hch (fun b o hL hb hc e n=>u.keep b o e n (fun z=>(List.mem_cons.mp (I.stkSub b z)).elim hL hb) hc) (fun b o _ _ hc e n=>u.any e n hc) (fun b o hc e n=>u.free b o e n hc) (fun b o hc e=>u.there b o e hc) u.tups u.frzs u.tbls (fun m' hm=>by
   obtain ⟨o',es',ep',ho',r'⟩:=hm
   rw [ho] at ho';cases ho'
   exact ⟨_,es',ep',hL,r'⟩) hok hg
theorem Inv.turned {t':Nat} {it:Addr} (I:Inv X pins σ H s) (k: ∀ b o,b≠it->s.heap.get? b=some o->h'.get? b=some o) (hn:H it=none) (hL:it≠X.env.locals)
  (h1:it∈X.ex\/X.s₀.heap.objs.size<=it) (h2: ∀ x c,X.env.cells.lookup x=some c->c≠it) (h3: ∀ p∈X.pn++pins,p.1≠it):Inv X pins σ H {s with heap:=h',toks:=t'}:=by
 have nit: ∀ b u,H b=some u->b≠it:=fun b u e z=>by rw [z,hn] at e;cases e
 refine I.step (g':=s.gens) (d':=s.drawn) (ch:=[it]) (fun b hb=> ?_) (fun b o _ _ hc e _=>k b o (fun z=>hc (by simp [z])) e) (fun b o _ _ hc e _=>⟨o.slots,k b o (fun z=>hc (by simp [z])) e⟩) (fun _ _ _ _ n=>n)
  (fun b o hc e=>⟨o,k b o (fun z=>hc (by simp [z])) e⟩) (fun _ _ e=>e) (fun _ _ _ e=>e) (fun b ps e=>⟨#[],by rw [e];simp⟩) (fun m hm=> ?_) (fun b u e=> ?_) I.bare
 ·have e:b=it:=by simpa using hb
  subst e
  exact ⟨h1,hL,h2,h3⟩
 ·obtain ⟨o,es,ep,ho,r⟩:=hm
  exact ⟨o,es,ep,k _ o (Ne.symm hL) ho,r⟩
 ·refine (I.hok b u e).stay (fun c v hc q=>k c v ?_ q) (fun _ q=>q) fun _ _ q=>q
  rcases hc with z | z
  ·rw [z];exact nit b u e
  ·exact nit c _ z
theorem Inv.tok (I:Inv X pins σ H s) (t:Nat):Inv X pins σ H {s with toks:=t}:=I.un (h':=s.heap) (t':=t) Un.refl I.hok
theorem Inv.kept {t':Nat} (I:Inv X pins σ H s) (k: ∀ b u,s.heap.get? b=some u->h'.get? b=some u):Inv X pins σ H {s with heap:=h',toks:=t'}:=I.un (Un.kept k) (I.hok.kept k)
theorem Inv.laid {a:Addr} {o:HO} {t':Nat} (I:Inv X pins σ H s) (k: ∀ b u,s.heap.get? b=some u->h'.get? b=some u) (hp:s.heap.objs.size<=a) (new:zbI X.prog X.w (upd H a o) h' a o):
  Inv X pins σ (upd H a o) {s with heap:=h',toks:=t'}:=I.un (Un.laid k hp (I.hok.fresh hp)) (I.hok.laid k hp new)
theorem Inv.write {x e:Addr} {o:HO} {t':Nat} (I:Inv X pins σ H s) (mu:Mut (H x)) (he:e=x\/H e=some (.own x)) (k: ∀ b u,b≠e->s.heap.get? b=some u->h'.get? b=some u) (heo: ∃ u,h'.get? e=some u)
  (new:zbI X.prog X.w (upd H x o) h' x o):Inv X pins σ (upd H x o) {s with heap:=h',toks:=t'}:=I.un (Un.write mu he k heo) (I.hok.write mu he k heo new)
theorem Inv.pins_of {pins':List (Addr×Obj)} (I:Inv X pins σ H s) (h: ∀ p∈pins',s.heap.get? p.1=some p.2/\H p.1=none/\p.1≠X.env.locals/\p.1∉X.fs/\ ∀ v,p.2.data≠ .cell v):Inv X pins' σ H s:=
 ⟨I.ok,I.os,I.bare,I.base,I.loc,I.cell,I.free,I.freeC,fun p hp=>(List.mem_append.mp hp).elim (fun z=>I.pin p (List.mem_append_left _ z)) (h p),I.hok,I.len⟩
theorem zfY {N:List Str} (hN:N.Nodup) {i j:Nat} {x:Str} (a:N[i]? = some x) (b:N[j]? = some x):i=j:=by
 obtain ⟨h1,e1⟩:=qab.mp a
 obtain ⟨h2,e2⟩:=qab.mp b
 exact (List.getElem_inj hN).mp (e1.trans e2.symm)
theorem zgZ {M:Model} {A:Around} {E:Value->Shared->Prop} {i:Nat} {x:Str} {v:V} {u:Value} {Q:Unit->Shared->Prop} (I:Inv X pins σ H s) (hN:X.N.Nodup) (hi:X.N[i]? = some x) (hx:Loc X.env.scope x) (r:zbj v u)
  (h: ∀ s',Inv X pins (σ.set i (some v)) H s'->(∃ a,Heap.SameBut a s.heap s'.heap/\(a=X.env.locals\/X.env.cells.lookup x=some a))->Q () s') (hf:X.fn x=true\/X.env.scope.names.lookup x=some .local:=by first | exact .inl rfl | exact .inr rfl | assumption):wpAny M A (storeName X.env x u) Q E s:=by
 obtain ⟨m,hn,hl⟩:=id I.loc
 have hcls:(X.env.scope.kind== .class || (X.env.scope.kind== .module && X.env.locals != X.env.globals))=false:=by rw [I.ok.kind];rfl
 have hiσ:i<σ.length:=by rw [I.len];exact (qab.mp hi).1
 have cne:=I.cne
 have tracked: ∀ {a:Addr} {h':Heap},(∃ o,s.heap.get? a=some o/\H a=none)->Heap.SameBut a s.heap h'->HOk X.prog X.w H h':=fun {a h'} ha hs b ob e=>by
  obtain ⟨_,_,hfree⟩:=ha
  refine (I.hok b ob e).stay (fun c w' hc q=>(hs.2 c ?_).trans q) (fun _ q=>q) fun _ _ q=>q
  rintro rfl
  rcases hc with rfl | hc
  ·rw [hfree] at e;cases e
  ·rw [hfree] at hc;cases hc
 rcases hx with hk | hk
 ·refine wpAny_storeName_local hk hn (fun h' hn' hs=> ?_) hcls
  obtain ⟨oL,_,_,hoL,_⟩:=id hn
  refine h _ ⟨I.ok,I.os,I.bare,⟨fun b o e n hb hx=> ?_,fun b o e n hb hx=> ?_,I.base.free,fun b o e hx=> ?_,I.base.tups,I.base.frzs,I.base.tbls⟩,⟨_,hn',fun j y v' e1 e2 e3=> ?_⟩,fun y c e=> ?_,I.free,I.freeC,fun p hp=> ?_,tracked ⟨oL,hoL,I.free⟩ hs,by simpa using I.len⟩ ⟨_,hs,.inl rfl⟩
  ·exact (hs.2 b (qaD (qap (qaC e) I.ok.above))).trans (I.base.keep b o e n hb hx)
  ·obtain ⟨sl,e1⟩:=I.base.slot b o e n hb hx
   exact ⟨sl,(hs.2 b (qaD (qap (qaC e) I.ok.above))).trans e1⟩
  ·obtain ⟨o',e1⟩:=I.base.there b o e hx
   exact ⟨o',(hs.2 b (qaD (qap (qaC e) I.ok.above))).trans e1⟩
  ·by_cases hj:j=i
   ·subst hj
    rw [hi] at e1;cases e1
    rw [qaf hiσ] at e2
    cases e2
    exact ⟨u,r,.inl ⟨hk,by simp⟩⟩
   ·rw [qak (Ne.symm hj)] at e2
    obtain ⟨u',r',q⟩:=hl j y v' e1 e2 e3
    refine ⟨u',r',?_⟩
    rcases q with ⟨k,e⟩ | ⟨k,c,e,z⟩
    ·refine .inl ⟨k,?_⟩
     have:y≠x:=fun e=>hj (zfY hN e1 (e▸hi))
     simp [this,e]
    ·exact .inr ⟨k,c,e,z.sameBut hs (cne y c e)⟩
  ·obtain ⟨w',z⟩:=I.cell y c e
   exact ⟨w',z.sameBut hs (cne y c e)⟩
  ·obtain ⟨e,n,ne,nf,d⟩:=I.pin p hp
   exact ⟨(hs.2 p.1 ne).trans e,n,ne,nf,d⟩
 ·have hfn:X.fn x=true:=by
   rcases hf with z | z
   ·exact z
   ·rw [z] at hk;cases hk
  obtain ⟨c,hc⟩:=I.ok.has x (.inl hk)
  obtain ⟨w',z⟩:=I.cell x c hc
  refine wpAny_storeName_cell I.ok.kind hk hc z (fun h' hc' hs=> ?_)
  obtain ⟨oc,hoc,hocd⟩:=id z
  refine h {s with heap:=h'} ⟨I.ok,I.os,I.bare,⟨fun b o e n hb hx=> ?_,fun b o e n hb hx=> ?_,I.base.free,fun b o e hx=> ?_,I.base.tups,I.base.frzs,I.base.tbls⟩,⟨m,hn.sameBut hs (Ne.symm (cne x c hc)),fun j y v' e1 e2 e3=> ?_⟩,fun y c' e=> ?_,I.free,I.freeC,fun p hp=> ?_,tracked ⟨oc,hoc,I.freeC x c hc⟩ hs,by simpa using I.len⟩ ⟨c,hs,.inr hc⟩
  ·exact (hs.2 b (qaD (qap (qaC e) (I.ok.cab x c hfn hc)))).trans (I.base.keep b o e n hb hx)
  ·obtain ⟨sl,e1⟩:=I.base.slot b o e n hb hx
   exact ⟨sl,(hs.2 b (qaD (qap (qaC e) (I.ok.cab x c hfn hc)))).trans e1⟩
  ·obtain ⟨o',e1⟩:=I.base.there b o e hx
   exact ⟨o',(hs.2 b (qaD (qap (qaC e) (I.ok.cab x c hfn hc)))).trans e1⟩
  ·by_cases hj:j=i
   ·subst hj
    rw [hi] at e1;cases e1
    rw [qaf hiσ] at e2
    cases e2
    exact ⟨u,r,.inr ⟨.inl hk,c,hc,hc'⟩⟩
   ·rw [qak (Ne.symm hj)] at e2
    obtain ⟨u',r',q⟩:=hl j y v' e1 e2 e3
    refine ⟨u',r',?_⟩
    rcases q with q | ⟨k,c',e,z'⟩
    ·exact .inl q
    ·refine .inr ⟨k,c',e,z'.sameBut hs ?_⟩
     rintro rfl
     exact hj (zfY hN e1 (I.ok.inj _ _ _ e hc▸hi))
  ·by_cases hcc:c'=c
   ·subst hcc;exact ⟨_,hc'⟩
   ·obtain ⟨w2,z2⟩:=I.cell y c' e
    exact ⟨w2,z2.sameBut hs hcc⟩
  ·obtain ⟨e,n,ne,nf,d⟩:=I.pin p hp
   refine ⟨(hs.2 p.1 ?_).trans e,n,ne,nf,d⟩
   intro q
   rw [q,hoc] at e
   have q':oc=p.2:=Option.some.inj e
   exact d w' (by rw [<- q'];exact hocd)
theorem zeq {M:Model} {A:Around} {E:Value->Shared->Prop} {i:Nat} {x:Str} {v:V} {u:Value} {Q:Unit->Shared->Prop} (I:Inv X pins σ H s) (hN:X.N.Nodup) (hi:X.N[i]? = some x) (hx:Loc X.env.scope x) (r:zbj v u)
  (h: ∀ s',Inv X pins (σ.set i (some v)) H s'->Q () s') (hf:X.fn x=true\/X.env.scope.names.lookup x=some .local:=by first | exact .inl rfl | exact .inr rfl | assumption):wpAny M A (storeName X.env x u) Q E s:=
 zgZ I hN hi hx r (fun s' I' _=>h s' I') hf
theorem Inv.call' {s':Shared} {ch:List Addr} (I:Inv X pins σ H s) (ho:s'.os=s.os) (u:Un (frs X.stack) ch H H' s.heap s'.heap) (hok:HOk X.prog X.w H' s'.heap) (hg:AllBare s'.gens)
  (hch: ∀ b∈ch,(b∈X.ex\/X.s₀.heap.objs.size<=b)/\b≠X.env.locals/\(∀ x c,X.env.cells.lookup x=some c->c≠b)/\ ∀ p∈X.pn++pins,p.1≠b):Inv X pins σ H' s':=by
 obtain ⟨h',g',d',t',o'⟩:=s'
 have e:o'=s.os:=ho
 subst e
 exact I.call (g':=g') (t':=t') (d':=d') u hok hg hch
end
noncomputable abbrev XK:=Value->Option Addr->Hp->Prop
noncomputable abbrev St:=List (Option V)
noncomputable abbrev VK:=V->Hp->Prop
noncomputable abbrev TE:=St->Hp->VK->Prop
noncomputable abbrev TT:=St->Hp->(Bool->Hp->Prop)->Prop
noncomputable abbrev TA:=St->Hp->(List V->Hp->Prop)->Prop
structure zoo where
 nx:St->Hp->Prop
 rt:VK
 bk:St->Hp->Prop:=fun _ _=>False
 ct:St->Hp->Prop:=fun _ _=>False
noncomputable abbrev TS:=zoo->St->Hp->Prop
noncomputable def EP (X:Cx) (pins:List (Addr×Obj)) (σ:St) (Q:VK) (u:Value) (s':Shared):Prop:= ∃ v H',Inv X pins σ H' s'/\zbj v u/\Q v H'
noncomputable def TP (X:Cx) (pins:List (Addr×Obj)) (σ:St) (Q:Bool->Hp->Prop) (b:Bool) (s':Shared):Prop:= ∃ H',Inv X pins σ H' s'/\Q b H'
noncomputable def AP (X:Cx) (pins:List (Addr×Obj)) (σ:St) (Q:List V->Hp->Prop) (us:List Value) (s':Shared):Prop:= ∃ vs H',Inv X pins σ H' s'/\zaV vs us/\Q vs H'
noncomputable def SP (X:Cx) (pins:List (Addr×Obj)) (D:zoo) (f:Flow) (s':Shared):Prop:=
 match f with
 | .next=> ∃ σ' H',Inv X pins σ' H' s'/\D.nx σ' H'
 | .brk=> ∃ σ' H',Inv X pins σ' H' s'/\D.bk σ' H'
 | .cont=> ∃ σ' H',Inv X pins σ' H' s'/\D.ct σ' H'
 | .ret u=> ∃ v σ' H',Inv X pins σ' H' s'/\zbj v u/\D.rt v H'
noncomputable def PE (X:Cx) (e:Expr) (t:TE):Prop:=
 ∀ (pins:List (Addr×Obj)) (s:Shared) (σ:St) (H:Hp) (Q:VK),Inv X pins σ H s->t σ H Q->wpAny (model X.prog X.w) X.A (eval e X.env) (EP X pins σ Q) X.xe s
noncomputable def PT (X:Cx) (e:Expr) (t:TT):Prop:=
 ∀ (pins:List (Addr×Obj)) (s:Shared) (σ:St) (H:Hp) (Q:Bool->Hp->Prop),Inv X pins σ H s->t σ H Q->wpAny (model X.prog X.w) X.A (isTrue e X.env (eval e X.env)) (TP X pins σ Q) X.xe s
noncomputable def PW (X:Cx) (e:Expr) (t:TT):Prop:=
 ∀ (whole:Sem Value) (pins:List (Addr×Obj)) (s:Shared) (σ:St) (H:Hp) (Q:Bool->Hp->Prop),Inv X pins σ H s->t σ H Q->wpAny (model X.prog X.w) X.A (isTrue e X.env whole) (TP X pins σ Q) X.xe s
theorem PW.pt {X:Cx} {e:Expr} {t:TT} (h:PW X e t):PT X e t:=h _
noncomputable def PA (X:Cx) (es:List Expr) (t:TA):Prop:=
 ∀ (pos:Pos) (pins:List (Addr×Obj)) (s:Shared) (σ:St) (H:Hp) (Q:List V->Hp->Prop),Inv X pins σ H s->t σ H Q->wpAny (model X.prog X.w) X.A (spliced (backTo pos (starEach es X.env))) (AP X pins σ Q) X.xe s
noncomputable def PS (X:Cx) (st:Stmt) (t:TS):Prop:=
 ∀ (pins:List (Addr×Obj)) (s:Shared) (σ:St) (H:Hp) (D:zoo),Inv X pins σ H s->t D σ H->wpAny (model X.prog X.w) X.A (exec st X.env) (SP X pins D) X.xe s
noncomputable def PSs (X:Cx) (st:List Stmt) (t:TS):Prop:=
 ∀ (pins:List (Addr×Obj)) (s:Shared) (σ:St) (H:Hp) (D:zoo),Inv X pins σ H s->t D σ H->wpAny (model X.prog X.w) X.A (execs st X.env) (SP X pins D) X.xe s
theorem thn {α:Type} {t:Sem α} {Q Q':α->Shared->Prop} {M:Model} {A:Around} {E:Value->Shared->Prop} {s:Shared} (h:wpAny M A t Q E s) (hQ: ∀ a s,Q a s->Q' a s):wpAny M A t Q' E s:=qaK h hQ fun _ _ x=>x
section
variable {X:Cx}
noncomputable def zvs (i:Nat):TE:=fun σ H Q=> ∃ v,σ[i]? = some (some v)/\Q v H
noncomputable def tC (v:V):TE:=fun _ H Q=>Q v H
theorem zoO {i:Nat} {x:Str} {pos:Pos} (hN:X.N[i]? = some x) (hv:Vis X.env.scope x) (hd:(x==("__debug__":Str))=false:=by decide) (hcd:(x==("__classdict__":Str))=false:=by decide):PE X (.Name x pos) (zvs i):=by
 intro pins s σ H Q I h
 obtain ⟨v,e,h⟩:=h
 obtain ⟨m,hn,hl⟩:=I.loc
 obtain ⟨u,r,l⟩:=hl i x v hN e hv
 have fin:EP X pins σ Q u s:=⟨v,H,I,r,h⟩
 rcases l with ⟨hk,hm⟩ | ⟨hk,c,hc,hcell⟩
 ·exact wpAny_Name (wpAny_loadName_local I.ok.kind hk hn hm fin) hd
 ·rcases hk with hk | hk
  ·exact wpAny_Name (wpAny_loadName_cell I.ok.kind hk hc hcell fin) hd
  ·exact wpAny_Name (wpAny_loadName_free I.ok.kind hk hc hcell fin hcd) hd
theorem zsE {i j pos}:PE X (.Constant (.int i) j pos) (tC (.int i)):=fun _ _ _ H _ I h=>wpAny_Constant_int ⟨.int i,H,I.tok _,⟨_,rfl⟩,h⟩
theorem zrO {b j pos}:PE X (.Constant (.bool b) j pos) (tC (.bl b)):=fun _ _ _ H _ I h=>Constant_bool ⟨.bl b,H,I,rfl,h⟩
theorem zrc {j pos}:PE X (.Constant .none j pos) (tC .non):=fun _ _ _ H _ I h=>Constant_none ⟨.non,H,I,rfl,h⟩
theorem zoF {x j pos}:PE X (.Constant (.str x) j pos) (tC (.str x)):=fun _ _ _ H _ I h=>Calls.Constant_str ⟨.str x,H,I.tok _,⟨_,rfl⟩,h⟩
noncomputable def Gl (X:Cx) (x:Str):Prop:=X.env.kindOf x=some .globalImplicit
theorem zh2 {E:Value->Shared->Prop} {pins:List (Addr×Obj)} {s:Shared} {σ:St} {H:Hp} {x:Str} {u:Value} {pos:Pos} {Q:Value->Shared->Prop} (I:Inv X pins σ H s) (hg:Gl X x) (hm:X.mg x=some u) (h:Q u s)
  (hd:(x==("__debug__":Str))=false:=by decide):wpAny (model X.prog X.w) X.A (eval (.Name x pos) X.env) Q E s:=
 Calls.Name_function_global I.ok.kind hg (Calls.loadGlobal_global (by rw [I.ok.glob];exact I.mod.glob.keeps I.bk) hm h) hd
theorem zgE {E:Value->Shared->Prop} {pins:List (Addr×Obj)} {s:Shared} {σ:St} {H:Hp} {x:Str} {u:Value} {pos:Pos} {Q:Value->Shared->Prop} (I:Inv X pins σ H s) (hg:Gl X x) (hm:X.mg x=none) (hv:bootBuiltins x=some u) (h:Q u s)
  (hn:x≠"__name__":=by decide) (hd:(x==("__debug__":Str))=false:=by decide):wpAny (model X.prog X.w) X.A (eval (.Name x pos) X.env) Q E s:=by
 obtain ⟨mb,h1,h2⟩:=I.mod.blt
 exact Calls.Name_function_global I.ok.kind hg (Calls.loadGlobal_builtin (by rw [I.ok.glob];exact I.mod.glob.keeps I.bk) hm (by rw [I.ok.blt];exact h1.keeps I.bk) ((h2 x hn).trans hv) h) hd
theorem zpQ {x:Str} {v:V} {u:Value} {pos:Pos} (hg:Gl X x) (hm:X.mg x=some u) (r:zbj v u) (hd:(x==("__debug__":Str))=false:=by decide):PE X (.Name x pos) (tC v):=
 fun _ _ _ H _ I h=>zh2 I hg hm ⟨v,H,I,r,h⟩ hd
theorem zqJ {x:Str} {v:V} {u:Value} {pos:Pos} (hg:Gl X x) (hm:X.mg x=none) (hv:bootBuiltins x=some u) (r:zbj v u) (hn:x≠"__name__":=by decide) (hd:(x==("__debug__":Str))=false:=by decide):PE X (.Name x pos) (tC v):=
 fun _ _ _ H _ I h=>zgE I hg hm hv ⟨v,H,I,r,h⟩ hn hd
noncomputable def t2I (ta tb:TE) (k:Int->Int->Hp->Prop):St->Hp->Prop:=fun σ H=>ta σ H fun x H1=>tb σ H1 fun y H2=> ∃ i j,x= .int i/\y= .int j/\k i j H2
variable {a b:Expr} {ta tb:TE} {pos:Pos}
noncomputable def zcQ (p:Int->Int->Bool) (ta tb:TE):TE:=fun σ H Q=>t2I ta tb (fun i j H2=>Q (.bl (p i j)) H2) σ H
noncomputable def tB (t:TE):TT:=fun σ H Q=>t σ H fun x H1=> ∃ c,x= .bl c/\Q c H1
theorem zsi {e:Expr} {t:TE} (h:PE X e t) (he: ∀ whole,isTrue e X.env whole=(do let v<-whole;standAt e.pos;holding [v] (truthy v)):=by intro _;rfl):PT X e (tB t):=by
 intro pins s σ H Q I hw
 refine isTrue_plain (thn (h pins s σ H _ I hw) fun v s1 ⟨x,H1,I1,r1,q1⟩=> ?_) (he _)
 obtain ⟨d,rfl,q⟩:=q1
 cases r1
 exact wpAny_truthy_bool ⟨H1,I1,q⟩
variable {tA tB':TT} {rest:List Expr}
noncomputable def zvn (t u:TT):TT:=fun σ H Q=>t σ H fun c H1=>if c=true then u σ H1 Q else Q false H1
noncomputable def tOr (t u:TT):TT:=fun σ H Q=>t σ H fun c H1=>if c=true then Q true H1 else u σ H1 Q
noncomputable def zkj (t:TT):TT:=fun σ H Q=>t σ H fun c H1=>Q (!c) H1
theorem pw_or1 (ha:PT X a tA):PW X (.BoolOp .Or [a] pos) tA:=by
 intro wh pins s σ H Q I h
 refine isTrue_or (thn (ha pins s σ H Q I h) fun c s1 e=> ?_)
 cases c with
 | false=>exact isTrue_or_nil e
 | true=>exact e
theorem pw_or (ha:PT X a tA) (hb:PW X (.BoolOp .Or (b::rest) pos) tB'):PW X (.BoolOp .Or (a::b::rest) pos) (tOr tA tB'):=by
 intro wh pins s σ H Q I h
 refine isTrue_or (thn (ha pins s σ H _ I h) fun c s1 ⟨H1,I1,q1⟩=> ?_)
 cases c with
 | true=>exact ⟨H1,I1,q1⟩
 | false=>exact hb wh pins s1 σ H1 Q I1 q1
theorem zrE (ha:PT X a tA):PT X (.UnaryOp .Not a pos) (zkj tA):=by
 intro pins s σ H Q I h
 exact isTrue_not (ha pins s σ H (fun c H1=>Q (!c) H1) I h)
noncomputable def zvj (ta tb:TE):TE:=fun σ H Q=>ta σ H fun x H1=> ∃ c,x= .bl c/\if c=true then tb σ H1 Q else Q (.bl false) H1
noncomputable def zt5 (ta:TE):TE:=fun σ H Q=>ta σ H fun x H1=> ∃ c,x= .bl c/\Q (.bl (!c)) H1
theorem zrS {op} {t:TE} (h:PE X a t):PE X (.BoolOp op [a] pos) t:=fun pins s σ H Q I hw=>BoolOp_one (h pins s σ H Q I hw)
theorem zsy (ha:PE X a ta) (hb:PE X (.BoolOp .And (b::rest) pos) tb):PE X (.BoolOp .And (a::b::rest) pos) (zvj ta tb):=by
 intro pins s σ H Q I h
 refine BoolOp_and (thn (ha pins s σ H _ I h) fun v s1 ⟨x,H1,I1,r1,q1⟩=> ?_)
 obtain ⟨c,rfl,q1⟩:=q1
 cases r1
 refine wpAny_truthy_bool ?_
 cases c with
 | true=>exact hb pins s1 σ H1 Q I1 q1
 | false=>exact ⟨.bl false,H1,I1,rfl,q1⟩
theorem zsx (ha:PE X a ta):PE X (.UnaryOp .Not a pos) (zt5 ta):=by
 intro pins s σ H Q I h
 refine UnaryOp_ (thn (ha pins s σ H _ I h) fun v s1 ⟨x,H1,I1,r1,q1⟩=> ?_)
 obtain ⟨c,rfl,q1⟩:=q1
 cases r1
 exact not_of (wpAny_truthy_bool ⟨.bl (!c),H1,I1,rfl,q1⟩)
noncomputable def tIf (t:TT) (ta tb:TE):TE:=fun σ H Q=>t σ H fun c H1=>if c=true then ta σ H1 Q else tb σ H1 Q
theorem znK {c:Expr} (hc:PT X c tA) (ha:PE X a ta) (hb:PE X b tb):PE X (.IfExp c a b pos) (tIf tA ta tb):=by
 intro pins s σ H Q I h
 refine wpAny_IfExp (thn (hc pins s σ H _ I h) fun d s1 ⟨H1,I1,q1⟩=> ?_)
 cases d with
 | true=>exact ha pins s1 σ H1 Q I1 q1
 | false=>exact hb pins s1 σ H1 Q I1 q1
end
noncomputable def SqL (K:W.Frag) (H:Hp) (a:Addr) (xs:List V):Prop:=
 Rd H a (.lst xs)\/
  ∃ (o:Obj) (its:Array Value) (n:Nat),K.lookup a=some o/\o.cls= .type "list"/\o.dict=none/\o.data= .seq its n/\its.size<=sizeLine/\zaV xs its.toList
noncomputable def SqT (K:W.Frag) (H:Hp) (a:Addr) (xs:List V):Prop:=
 Rd H a (.tup xs)\/
  ∃ (o:Obj) (its:Array Value) (n:Nat),K.lookup a=some o/\o.cls= .type "tuple"/\o.data= .seq its n/\its.size<=sizeLine/\zaV xs its.toList
noncomputable def zvE:Value->Option V
 | .none=>some .non
 | .bool b=>some (.bl b)
 | .int i _=>some (.int i)
 | .str x _=>some (.str x)
 | .bytes b _=>some (.byt b)
 | .float b _=>some (.flt b)
 | .ref a=>some (.ref a)
 | .type n=>some (.ty n)
 | _=>none
theorem zbj.abs {x:V} {u:Value} (r:zbj x u):zvE u=some x:=by
 cases x with
 | non=>cases r;rfl
 | bl _=>cases r;rfl
 | int _=>obtain ⟨t,rfl⟩:=r;rfl
 | str _=>obtain ⟨t,rfl⟩:=r;rfl
 | byt _=>obtain ⟨t,rfl⟩:=r;rfl
 | flt _=>obtain ⟨t,rfl⟩:=r;rfl
 | ref _=>cases r;rfl
 | ty _=>cases r;rfl
theorem zbj.inj {x y:V} {u:Value} (r:zbj x u) (q:zbj y u):x=y:=Option.some.inj (r.abs.symm.trans q.abs)
theorem zaV.inj: ∀ {xs ys:List V} {us:List Value},zaV xs us->zaV ys us->xs=ys
 | _,_,_,.nil,.nil=>rfl
 | _,_,_,.cons r t,.cons r' t'=>by rw [r.inj r',zaV.inj t t']
section
variable {X:Cx} {pins:List (Addr×Obj)} {σ:St} {H:Hp} {s:Shared} {a:Addr} {xs ys:List V}
theorem SqL.of {K:W.Frag} (h:H a=some (.lst xs)):SqL K H a xs:= .inl (.inl h)
theorem SqT.of {K:W.Frag} (h:H a=some (.tup xs)):SqT K H a xs:= .inl (.inl h)
theorem Inv.list (I:Inv X pins σ H s) (h:SqL X.K H a xs): ∃ its:List Value,zaV xs its/\PlainL s.heap a its.toArray/\xs.length<=sizeLine:=by
 rcases h with h | ⟨o,its,n,hk,hc,hd,hs,hz,r⟩
 ·obtain ⟨z,its,n,r,e⟩:=h.ok I.hok
  exact ⟨its,r,⟨_,n,e,rfl,rfl,rfl⟩,z⟩
 ·refine ⟨its.toList,r,⟨o,n,I.kIn a o hk,hc,hd,by simpa using hs⟩,?_⟩
  have e:=r.length
  simp only [qam] at e
  omega
theorem Inv.tuple (I:Inv X pins σ H s) (h:SqT X.K H a xs): ∃ its:List Value,zaV xs its/\IsTup s.heap a its.toArray/\xs.length<=sizeLine:=by
 rcases h with h | ⟨o,its,n,hk,hc,hs,hz,r⟩
 ·obtain ⟨z,its,r,p⟩:=h.ok I.hok
  exact ⟨its,r,p,z⟩
 ·refine ⟨its.toList,r,⟨o,I.kIn a o hk,hc,n,by simpa using hs⟩,?_⟩
  have e:=r.length
  simp only [qam] at e
  omega
theorem Inv.list_inj (I:Inv X pins σ H s) (h:SqL X.K H a xs) (h':SqL X.K H a ys):xs=ys:=by
 obtain ⟨its,r,⟨o,n,e,_,_,d⟩,_⟩:=I.list h
 obtain ⟨its',r',⟨o',n',e',_,_,d'⟩,_⟩:=I.list h'
 rw [e] at e';cases e'
 rw [d] at d'
 injection d' with d1 _
 have:its=its':=by simpa using congrArg Array.toList d1
 subst this
 exact r.inj r'
theorem Inv.tuple_inj (I:Inv X pins σ H s) (h:SqT X.K H a xs) (h':SqT X.K H a ys):xs=ys:=by
 obtain ⟨its,r,⟨o,e,_,n,d⟩,_⟩:=I.tuple h
 obtain ⟨its',r',⟨o',e',_,n',d'⟩,_⟩:=I.tuple h'
 rw [e] at e';cases e'
 rw [d] at d'
 injection d' with d1 _
 have:its=its':=by simpa using congrArg Array.toList d1
 subst this
 exact r.inj r'
end
noncomputable abbrev Cx.wish (X:Cx) (E:Value->Shared->Prop):Cx:={X with xe:=E}
noncomputable abbrev Cx.nox (X:Cx):Cx:=X.wish fun _ _=>False
theorem Cx.Ok.wish {X:Cx} (ok:X.Ok) (E:Value->Shared->Prop):(X.wish E).Ok:=
 ⟨ok.mod,ok.kind,ok.glob,ok.blt,ok.above,ok.inj,ok.has,ok.cab,ok.hd,ok.hx,ok.frames,ok.stk,ok.exf,ok.bs,ok.bsz,ok.noex,ok.exfs,ok.funs,ok.frf⟩
theorem Cx.Ok.unwish {X:Cx} {E:Value->Shared->Prop} (ok:(X.wish E).Ok):X.Ok:=
 ⟨ok.mod,ok.kind,ok.glob,ok.blt,ok.above,ok.inj,ok.has,ok.cab,ok.hd,ok.hx,ok.frames,ok.stk,ok.exf,ok.bs,ok.bsz,ok.noex,ok.exfs,ok.funs,ok.frf⟩
section
variable {X:Cx} {pins:List (Addr×Obj)} {σ:St} {H:Hp} {s:Shared} {E:Value->Shared->Prop}
theorem Inv.wish (I:Inv X pins σ H s) (E:Value->Shared->Prop):Inv (X.wish E) pins σ H s:=⟨I.ok.wish E,I.os,I.bare,I.base,I.loc,I.cell,I.free,I.freeC,I.pin,I.hok,I.len⟩
theorem Inv.unwish (I:Inv (X.wish E) pins σ H s):Inv X pins σ H s:=⟨I.ok.unwish,I.os,I.bare,I.base,I.loc,I.cell,I.free,I.freeC,I.pin,I.hok,I.len⟩
theorem SP.unwish {D:zoo} {f:Flow} {s':Shared} (h:SP (X.wish E) pins D f s'):SP X pins D f s':=by
 cases f with
 | next=>obtain ⟨σ',H',I,q⟩:=h;exact ⟨σ',H',I.unwish,q⟩
 | brk=>obtain ⟨σ',H',I,q⟩:=h;exact ⟨σ',H',I.unwish,q⟩
 | cont=>obtain ⟨σ',H',I,q⟩:=h;exact ⟨σ',H',I.unwish,q⟩
 | ret u=>obtain ⟨v,σ',H',I,r,q⟩:=h;exact ⟨v,σ',H',I.unwish,r,q⟩
theorem PE.nox {e:Expr} {t:TE} (h:PE X.nox e t):PE X e t:=fun pins s σ H Q I hw=>
 qaK (h pins s σ H Q (I.wish _) hw) (fun _ _ ⟨v,H',I',r,q⟩=>⟨v,H',I'.unwish,r,q⟩) fun _ _ z=>False.elim z
theorem PT.nox {e:Expr} {t:TT} (h:PT X.nox e t):PT X e t:=fun pins s σ H Q I hw=>
 qaK (h pins s σ H Q (I.wish _) hw) (fun _ _ ⟨H',I',q⟩=>⟨H',I'.unwish,q⟩) fun _ _ z=>False.elim z
theorem PSs.nox {st:List Stmt} {t:TS} (h:PSs X.nox st t):PSs X st t:=fun pins s σ H D I hw=>
 qaK (h pins s σ H D (I.wish _) hw) (fun _ _ q=>q.unwish) fun _ _ z=>False.elim z
end
section
variable {X:Cx} {st:Stmt} {rest:List Stmt} {t u:TS} {e:Expr} {te:TE} {pos:Pos}
noncomputable def zut:TS:=fun D σ H=>D.nx σ H
noncomputable def zvy (t u:TS):TS:=fun D σ H=>t {D with nx:=u D} σ H
theorem zqQ:PSs X [] zut:=fun _ _ σ H _ I h=>wpAny_execs_nil ⟨σ,H,I,h⟩
theorem zoe (h1:PS X st t) (h2:PSs X rest u):PSs X (st::rest) (zvy t u):=by
 intro pins s σ H D I h
 refine wpAny_execs_cons (thn (h1 pins s σ H {D with nx:=u D} I h) fun f s1 q=> ?_)
 cases f with
 | next=>
  obtain ⟨σ',H',I',q⟩:=q
  exact h2 pins s1 σ' H' D I' q
 | ret v=>exact q
 | brk=>exact q
 | cont=>exact q
theorem zqE (h1:PS X st t):PSs X [st] t:=by
 intro pins s σ H D I h
 refine wpAny_execs_cons (thn (h1 pins s σ H D I h) fun f s1 q=> ?_)
 cases f with
 | next=>exact wpAny_execs_nil q
 | ret v=>exact q
 | brk=>exact q
 | cont=>exact q
theorem Inv.quiet {pins:List (Addr×Obj)} {σ:St} {H:Hp} {s:Shared} (I:Inv X pins σ H s):interactive X.env=false:=by simp [interactive,I.ok.kind]
noncomputable def zuU (te:TE):TS:=fun D σ H=>te σ H fun _ H1=>D.nx σ H1
theorem zpd (he:PE X e te) (hs:swapsWith e none pos.line X.env=pure false:=by rfl):PS X (.Expr e pos) (zuU te):=by
 intro pins s σ H D I h
 exact wpAny_Expr_any (thn (he pins s σ H _ I h) fun v s1 ⟨x,H1,I1,r1,q1⟩=>⟨σ,H1,I1,q1⟩) I.quiet hs
noncomputable def zv3 (te:TE):TS:=fun D σ H=>te σ H D.rt
theorem ztv (he:PE X e te):PS X (.Return (some e) pos) (zv3 te):=by
 intro pins s σ H D I h
 exact wpAny_Return_some (thn (he pins s σ H _ I h) fun v s1 ⟨x,H1,I1,r1,q1⟩=>⟨x,σ,H1,I1,r1,q1⟩)
noncomputable def zvS (c:TT) (t u:TS):TS:=fun D σ H=>c σ H fun b H1=>if b=true then t D σ H1 else u D σ H1
theorem zt2 {c:Expr} {a b:List Stmt} {tc:TT} (hc:PT X c tc) (ha:PSs X a t) (hb:PSs X b u):PS X (.If c a b pos) (zvS tc t u):=by
 intro pins s σ H D I h
 refine wpAny_If (thn (hc pins s σ H _ I h) fun d s1 ⟨H1,I1,q1⟩=> ?_)
 cases d with
 | true=>exact ha pins s1 σ H1 D I1 q1
 | false=>exact hb pins s1 σ H1 D I1 q1
end
noncomputable abbrev TG:=V->St->Hp->(St->Hp->Prop)->Prop
noncomputable abbrev TGs:=List V->St->Hp->(St->Hp->Prop)->Prop
noncomputable def PG (X:Cx) (target:Expr) (t:TG):Prop:=
 ∀ (pins:List (Addr×Obj)) (s:Shared) (σ:St) (H:Hp) (v:V) (u:Value) (Q:St->Hp->Prop),Inv X pins σ H s->zbj v u->t v σ H Q->
  wpAny (model X.prog X.w) X.A (assign target X.env u) (fun _ s'=> ∃ σ' H',Inv X pins σ' H' s'/\Q σ' H') X.xe s
noncomputable def PGs (X:Cx) (ts:List Expr) (t:TGs):Prop:=
 ∀ (pins:List (Addr×Obj)) (s:Shared) (σ:St) (H:Hp) (vs:List V) (us:List Value) (Q:St->Hp->Prop),Inv X pins σ H s->zaV vs us->t vs σ H Q->
  wpAny (model X.prog X.w) X.A (assignInOrder ((assignEach ts X.env).map (·.2)) us) (fun _ s'=> ∃ σ' H',Inv X pins σ' H' s'/\Q σ' H') X.xe s
noncomputable abbrev ztu:=V->V->V->Hp->(Hp->Prop)->Prop
noncomputable def zqa (X:Cx) (t:ztu):Prop:=
 ∀ (pins:List (Addr×Obj)) (s:Shared) (σ:St) (H:Hp) (o i v:V) (ov iv u:Value) (Q:Hp->Prop),Inv X pins σ H s->zbj o ov->zbj i iv->zbj v u->t o i v H Q->
  wpAny (model X.prog X.w) X.A (setItem ov iv u) (fun _ s'=> ∃ H',Inv X pins σ H' s'/\Q H') X.xe s
section
variable {X:Cx} {pos:Pos}
noncomputable def zpG (i:Nat):TG:=fun v σ H Q=>Q (σ.set i (some v)) H
theorem zpT {i:Nat} {x:Str} (hN:X.N.Nodup) (hi:X.N[i]? = some x) (hx:Loc X.env.scope x) (hf:X.fn x=true\/X.env.scope.names.lookup x=some .local:=by first | exact .inl rfl | exact .inr rfl | assumption):PG X (.Name x pos) (zpG i):=by
 intro pins s σ H v u Q I r h
 exact wpAny_assign_Name (zeq I hN hi hx r (fun s' I'=>⟨_,H,I',h⟩) hf)
noncomputable def zvG:TGs:=fun vs σ H Q=>vs=[]/\Q σ H
noncomputable def zuc (t:TG) (u:TGs):TGs:=fun vs σ H Q=> ∃ v r,vs=v::r/\t v σ H fun σ' H'=>u r σ' H' Q
theorem zqM:PGs X [] zvG:=by
 intro pins s σ H vs us Q I r h
 obtain ⟨e,h⟩:=h
 subst e
 cases r
 exact assignInOrder_nil ⟨σ,H,I,h⟩
theorem znz {e:Expr} {es:List Expr} {t:TG} {u:TGs} (h1:PG X e t) (h2:PGs X es u)
  (hs:(assignEach (e::es) X.env).map (·.2)=assign e X.env::(assignEach es X.env).map (·.2):=by rfl):PGs X (e::es) (zuc t u):=by
 intro pins s σ H vs us Q I r h
 obtain ⟨v,vr,e1,h⟩:=h
 subst e1
 cases r with
 | cons r rr=>
  rw [hs]
  refine assignInOrder_cons (thn (h1 pins s σ H _ _ _ I r h) fun _ s1 ⟨σ1,H1,I1,q1⟩=> ?_)
  exact h2 pins s1 σ1 H1 _ _ Q I1 rr q1
noncomputable def zvX (K:W.Frag) (n:Nat) (t:TGs):TG:=fun v σ H Q=> ∃ a xs,v= .ref a/\SqT K H a xs/\xs.length=n/\t xs σ H Q
theorem zrf {es:List Expr} {k:Nat} {t:TGs} {n:Nat} (hc:X.calm=true) (h:PGs X es t)
  (hn:(assignEach es X.env).length=n:=by rfl) (hst:(assignEach es X.env).findIdx? (·.1)=none:=by rfl):PG X (.Tuple es k pos) (zvX X.K n t):=by
 intro pins s σ H v u Q I r hw
 obtain ⟨a,xs,e1,hq,hl,hw⟩:=hw
 subst e1
 cases r
 obtain ⟨its,rv,ht,hz⟩:=I.tuple hq
 refine assign_Tuple_tuple (I.ok.hd hc) ht (by simp [hn, <-hl,rv.length]) hst fun h' hx=> ?_
 have I1:Inv X pins σ H {s with heap:=h'}:=I.kept (t':=s.toks) fun b o e=>hx b o (qaD (qaC e)) e
 exact h pins _ σ H xs _ Q I1 (by simpa using rv) hw
noncomputable def zvo (to ti:TE) (t:ztu):TG:=fun v σ H Q=>to σ H fun o H1=>ti σ H1 fun i H2=>t o i v H2 fun H3=>Q σ H3
theorem zoU {o i:Expr} {to ti:TE} {t:ztu} (ho:PE X o to) (hi:PE X i ti) (hs:zqa X t)
  (ha: ∀ v,assign (.Subscript o i pos) X.env v=(do
    let ov<-holding [v] (eval o X.env)
    let iv<-holding [v,ov] (eval i X.env)
    standAt pos
    holding [v,ov,iv] (setItem ov iv v)
    release [v,ov,iv] []):=by intro _;rfl):PG X (.Subscript o i pos) (zvo to ti t):=by
 intro pins s σ H v u Q I r h
 rw [ha]
 refine qaH (qaB (thn (ho pins s σ H _ I h) fun ov s1 ⟨x,H1,I1,r1,q1⟩=> ?_))
 refine qaH (qaB (thn (hi pins s1 σ H1 _ I1 q1) fun iv s2 ⟨y,H2,I2,r2,q2⟩=> ?_))
 refine qaH (wpAny_standAt (qaH (qaB (thn (hs pins s2 σ H2 x y v ov iv u _ I2 r1 r2 r q2) fun _ s3 ⟨H3,I3,q3⟩=> ?_))))
 exact wpAny_release ⟨σ,H3,I3,q3⟩
noncomputable def zuR (te:TE) (g:TG):TS:=fun D σ H=>te σ H fun x H1=>g x σ H1 D.nx
theorem zsm {tg e:Expr} {te:TE} {g:TG} (he:PE X e te) (hg:PG X tg g) (hs:swapsWithSole [tg] e pos.line X.env=pure false:=by rfl) (hw:swappedStores [tg] e X.env=pure none:=by rfl)
  (h1:(assignEach [tg] X.env).map (·.2)=[assign tg X.env]:=by rfl):PS X (.Assign [tg] e pos) (zuR te g):=by
 intro pins s σ H D I h
 refine wpAny_Assign_stores (thn (he pins s σ H _ I h) fun v s1 ⟨x,H1,I1,r1,q1⟩=> ?_) hs hw
 rw [h1]
 exact thn (hg pins s1 σ H1 x v _ I1 r1 q1) fun _ s2 q=>q
theorem zrM {i:Nat} {x:Str} {e:Expr} {te:TE} {pos':Pos} (hN:X.N.Nodup) (hi:X.N[i]? = some x) (hx:Loc X.env.scope x) (he:PE X e te) (hs:swapsWith e (some (.Name x pos')) pos.line X.env=pure false:=by rfl) (hf:X.fn x=true\/X.env.scope.names.lookup x=some .local:=by first | exact .inl rfl | exact .inr rfl | assumption):
  PS X (.Assign [.Name x pos'] e pos) (zuR te (zpG i)):=by
 intro pins s σ H D I h
 refine wpAny_Assign_Name (thn (he pins s σ H _ I h) fun v s1 ⟨y,H1,I1,r1,q1⟩=> ?_) hs
 exact zeq I1 hN hi hx r1 (fun s2 I2=>⟨_,H1,I2,q1⟩) hf
end
section
variable {X:Cx} {pos:Pos}
end
structure It where
 go:Nat->Hp->Prop
 yld:Nat->Hp->V->Hp->Prop
 stop:Nat->Hp->Prop
noncomputable def zmD (X:Cx) (pins:List (Addr×Obj)) (H:Hp) (b:Addr):Prop:=
 H b=none/\b≠X.env.locals/\b∉X.fs/\(b∈X.ex\/X.s₀.heap.objs.size<=b)/\(∀ x c,X.env.cells.lookup x=some c->c≠b)/\ ∀ p∈X.pn++pins,p.1≠b
theorem Inv.fpOk {X:Cx} {pins:List (Addr×Obj)} {σ:St} {H H':Hp} {s:Shared} {b:Addr} (I:Inv X pins σ H s) (hb:s.heap.objs.size<=b) (hn:H' b=none):zmD X pins H' b:=by
 refine ⟨hn,Nat.ne_of_gt (qap I.lt hb),I.nofs hb,.inr (qaE I.sz hb),fun x c e z=> ?_,fun p hp z=> ?_⟩
 ·obtain ⟨v,q⟩:=I.cell x c e
  exact absurd (qap q.lt (by rw [z];exact hb)) (qaA _)
 ·exact absurd (qap (qaC (I.pin p hp).1) (by rw [z];exact hb)) (qaA _)
structure zq2 (P:Program) (w:World) (K:W.Frag) (tg:Expr) (J:It) (fp:List Addr) (it:Addr) (tn:Nat->Heap->Prop):Prop where
 mem:it∈fp
 obj: ∀ i h,tn i h-> ∀ b∈fp, ∃ o,h.get? b=some o/\ ∀ v,o.data≠ .cell v
 keep: ∀ i h h',tn i h->(∀ b∈fp, ∀ o,h.get? b=some o->h'.get? b=some o)->tn i h'
 item: ∀ (X:Cx),X.prog=P->X.w=w->X.K=K-> ∀ (i:Nat) (pins:List (Addr×Obj)) (s:Shared) (σ:St) (H:Hp) (E:Value->Shared->Prop),Inv X pins σ H s->(∀ b∈fp,zmD X pins H b)->tn i s.heap->J.go i H->
  wpAny (model P w) X.A (pyNext (.ref it)) (fun r s1=> ∃ u,r=some u/\
    wpAny (model P w) X.A (letOwnedTupleGo tg (.ref it) u) (fun _ s2=> ∃ x H',Inv X pins σ H' s2/\zbj x u/\J.yld i H x H'/\tn (i+1) s2.heap/\ ∀ b∈fp,H' b=none) E s1) E s
 done: ∀ (X:Cx),X.prog=P->X.w=w->X.K=K-> ∀ (i:Nat) (pins:List (Addr×Obj)) (s:Shared) (σ:St) (H:Hp) (E:Value->Shared->Prop),Inv X pins σ H s->(∀ b∈fp,zmD X pins H b)->tn i s.heap->J.stop i H->
  wpAny (model P w) X.A (pyNext (.ref it)) (fun r s1=>r=none/\Inv X pins σ H s1) E s
 self: ∀ (A:Around) (i:Nat) (s:Shared) (Q:Value->Shared->Prop) (E:Value->Shared->Prop),tn i s.heap->Q (.ref it) s->wpAny (model P w) A (pyIter (.ref it)) Q E s
noncomputable abbrev TI:=St->Hp->(It->Hp->Prop)->Prop
noncomputable def PIE (X:Cx) (pins:List (Addr×Obj)) (σ:St) (tg:Expr) (R:It->Hp->Prop) (itv:Value) (s2:Shared):Prop:=
 ∃ (it:Addr) (fp:List Addr) (tn:Nat->Heap->Prop) (J:It) (H':Hp),itv= .ref it/\Inv X pins σ H' s2/\zq2 X.prog X.w X.K tg J fp it tn/\tn 0 s2.heap/\(∀ b∈fp,zmD X pins H' b)/\R J H'
noncomputable def PI (X:Cx) (tg iter:Expr) (wi:TI):Prop:=
 ∀ (pins:List (Addr×Obj)) (s:Shared) (σ:St) (H:Hp) (R:It->Hp->Prop),Inv X pins σ H s->wi σ H R->
  wpAny (model X.prog X.w) X.A (eval iter X.env) (fun v s1=>wpAny (model X.prog X.w) X.A (pyIter v) (PIE X pins σ tg R) X.xe s1) X.xe s
theorem znk {M:Model} {A:Around} {E:Value->Shared->Prop} {s:Shared} {tg:Expr} {it:Addr} {u:Value} {o:Obj} {n:String} {vs:Array Value} {Q:Unit->Shared->Prop} (ho:s.heap.get? it=some o) (hc:o.cls= .type n) (hd:o.data= .fields vs)
  (hn:["enumerate","zip","dict_itemiterator","dict_reverseitemiterator","odict_iterator","itertools.zip_longest","itertools.pairwise"].contains n=false) (hQ:Q () s):wpAny M A (letOwnedTupleGo tg (.ref it) u) Q E s:=by
 unfold letOwnedTupleGo
 cases tg<;>first
  | exact qaI hQ
  | (cases u<;>first
      | exact qaI hQ
      | (refine qaH (wpAny_load ho ?_)
         rw [hc,hd]
         show wpAny M A (if (["enumerate","zip","dict_itemiterator","dict_reverseitemiterator","odict_iterator","itertools.zip_longest","itertools.pairwise"].contains n && vs[0]? == some (rawInt _))=true then _ else _) Q E s
         rw [if_neg (by intro h;rw [hn,Bool.false_and] at h;cases h)]
         exact qaI hQ))
noncomputable def Itl (K:W.Frag) (a:Addr):It:=
 ⟨fun i H=> ∃ xs x,SqL K H a xs/\xs[i]? = some x,fun i H x H'=>H'=H/\ ∀ xs,SqL K H a xs->xs[i]? = some x,fun i H=> ∃ xs,SqL K H a xs/\xs.length<=i⟩
noncomputable def Itt (K:W.Frag) (a:Addr):It:=
 ⟨fun i H=> ∃ xs x,SqT K H a xs/\xs[i]? = some x,fun i H x H'=>H'=H/\ ∀ xs,SqT K H a xs->xs[i]? = some x,fun i H=> ∃ xs,SqT K H a xs/\xs.length<=i⟩
noncomputable def Itr (lo:Int) (n:Nat):It:=⟨fun i _=>i<n,fun i H x H'=>H'=H/\x= .int (lo+i),fun i _=>n<=i⟩
theorem zhj.keep {A:Around} {H H':Hp} (x:zhj A H) (k: ∀ b o u,H b=some (.frz o u)->H' b=some (.frz o u)):zhj A H':=by
 rcases x with x | ⟨a,o,cls,head,vs,x1,x2,x3⟩
 ·exact .inl x
 ·exact .inr ⟨a,o,cls,head,vs,x1,k _ _ _ x2,x3⟩
theorem zhj.at_ {A:Around} {P:Program} {w:World} {H:Hp} {h:Heap} (x:zhj A H) (ok:HOk P w H h):L3.znM A h:=by
 rcases x with x | ⟨a,o,cls,head,vs,x1,x2,x3⟩
 ·exact .inl x
 ·exact .inr ⟨a,cls,head,x1,o,vs,(ok a _ x2).1,x3⟩
theorem Inv.handA {X:Cx} {pins:List (Addr×Obj)} {σ:St} {H:Hp} {s:Shared} (I:Inv X pins σ H s):zhj X.A H:=I.ok.hx.keep I.base.frzs
theorem Inv.hand {X:Cx} {pins:List (Addr×Obj)} {σ:St} {H:Hp} {s:Shared} (I:Inv X pins σ H s):L3.znM X.A s.heap:=I.handA.at_ I.hok
theorem zlX {P:Program} {w:World} {K:W.Frag} {tg:Expr} (a it:Addr):zq2 P w K tg (Itl K a) [it] it (fun i h=>h.IsListIter it a i) where
 mem:=by simp
 obj:=fun i h st b hb=>by
  have e:b=it:=by simpa using hb
  subst e
  obtain ⟨o,e,c,d⟩:=st
  exact ⟨o,e,fun v z=>by rw [d] at z;cases z⟩
 keep:=fun i h h' st k=>st.at fun o e=>k it (by simp) o e
 item:=by
  intro X hP hw hK i pins s σ H E I hf st hg
  subst hP hw hK
  obtain ⟨xs,x,hq,hx⟩:=hg
  obtain ⟨its,rv,p,hz⟩:=I.list hq
  obtain ⟨u,hu,ru⟩:=rv.get hx
  obtain ⟨f0,f1,f2,f3,f4,f5⟩:=hf it (by simp)
  refine wpAny_pyNext_list_item st p.isList (x:=u) (by simpa using hu) fun h' st' sb=> ?_
  have I1:Inv X pins σ H {s with heap:=h'}:=I.turned (t':=s.toks) (fun b o hb e=>(sb.2 b hb).trans e) f0 f1 f3 f4 f5
  obtain ⟨o,e,c,d⟩:=id st'
  exact ⟨u,rfl,znk (s:={s with heap:=h'}) e c d (by decide) ⟨x,H,I1,ru,⟨rfl,fun ys hy=>by rw [I.list_inj hy hq];exact hx⟩,st',fun b hb=>(hf b hb).1⟩⟩
 done:=by
  intro X hP hw hK i pins s σ H E I hf st hg
  subst hP hw hK
  obtain ⟨xs,hq,hx⟩:=hg
  obtain ⟨its,rv,p,hz⟩:=I.list hq
  obtain ⟨f0,f1,f2,f3,f4,f5⟩:=hf it (by simp)
  have hl:=rv.length
  exact L3.ziO I.hand st p.isList (by simp;omega) fun h' eb=>⟨rfl,I.turned (t':=s.toks) (fun b o hb e=>eb b o hb e) f0 f1 f3 f4 f5⟩
 self:=fun _ _ _ _ _ st h=>wpAny_pyIter_listiter st h
theorem zjR {P:Program} {w:World} {K:W.Frag} {tg:Expr} (a it:Addr):zq2 P w K tg (Itt K a) [it] it (fun i h=>h.IsTupleIter it a i) where
 mem:=by simp
 obj:=fun i h st b hb=>by
  have e:b=it:=by simpa using hb
  subst e
  obtain ⟨o,e,c,d⟩:=st
  exact ⟨o,e,fun v z=>by rw [d] at z;cases z⟩
 keep:=fun i h h' st k=>st.at fun o e=>k it (by simp) o e
 item:=by
  intro X hP hw hK i pins s σ H E I hf st hg
  subst hP hw hK
  obtain ⟨xs,x,hq,hx⟩:=hg
  obtain ⟨its,rv,p,hz⟩:=I.tuple hq
  obtain ⟨u,hu,ru⟩:=rv.get hx
  obtain ⟨f0,f1,f2,f3,f4,f5⟩:=hf it (by simp)
  refine wpAny_pyNext_tuple_item st (show s.heap.IsTuple a its.toArray from p) (x:=u) (by simpa using hu) fun h' st' sb=> ?_
  have I1:Inv X pins σ H {s with heap:=h'}:=I.turned (t':=s.toks) (fun b o hb e=>(sb.2 b hb).trans e) f0 f1 f3 f4 f5
  obtain ⟨o,e,c,d⟩:=id st'
  exact ⟨u,rfl,znk (s:={s with heap:=h'}) e c d (by decide) ⟨x,H,I1,ru,⟨rfl,fun ys hy=>by rw [I.tuple_inj hy hq];exact hx⟩,st',fun b hb=>(hf b hb).1⟩⟩
 done:=by
  intro X hP hw hK i pins s σ H E I hf st hg
  subst hP hw hK
  obtain ⟨xs,hq,hx⟩:=hg
  obtain ⟨its,rv,p,hz⟩:=I.tuple hq
  obtain ⟨f0,f1,f2,f3,f4,f5⟩:=hf it (by simp)
  have hl:=rv.length
  exact L3.zmi I.hand st (show s.heap.IsTuple a its.toArray from p) (by simp;omega) fun h' eb=>⟨rfl,I.turned (t':=s.toks) (fun b o hb e=>eb b o hb e) f0 f1 f3 f4 f5⟩
 self:=fun _ _ _ _ _ st h=>wpAny_pyIter_tupleiter st h
theorem zj4 {P:Program} {w:World} {K:W.Frag} {tg:Expr} (it:Addr) (lo:Int) (n:Nat):zq2 P w K tg (Itr lo n) [it] it (fun i h=>IsRangeIter h it (lo+(i:Nat)*1) ((n:Int) - (i:Nat)) 1) where
 mem:=by simp
 obj:=fun i h st b hb=>by
  have e:b=it:=by simpa using hb
  subst e
  exact ⟨_,st,fun v z=>by
    have z':Data.fields _=Data.cell v:=z
    cases z'⟩
 keep:=fun i h h' st k=>k it (by simp) _ st
 item:=by
  intro X hP hw hK i pins s σ H E I hf st hg
  subst hP hw hK
  obtain ⟨f0,f1,f2,f3,f4,f5⟩:=hf it (by simp)
  refine wpAny_pyNext_range_item st (by have:i<n:=hg;omega) fun h' st' kk=> ?_
  have e1:lo+(i:Nat)*1+1=lo+((i+1:Nat):Int)*1:=by omega
  have e2:(n:Int) - (i:Nat) - 1=(n:Int) - ((i+1:Nat):Int):=by omega
  rw [e1,e2] at st'
  have I1:Inv X pins σ H {s with heap:=h',toks:=s.toks+1}:=I.turned (fun b o hb e=>(kk.2 b hb).trans e) f0 f1 f3 f4 f5
  refine ⟨_,rfl,znk (s:={s with heap:=h',toks:=s.toks+1}) (n:="range_iterator") st' rfl rfl (by decide) ⟨.int (lo+i),H,I1,⟨s.toks,?_⟩,⟨rfl,rfl⟩,st',fun b hb=>(hf b hb).1⟩⟩
  rw [Int.mul_one]
 done:=by
  intro X hP hw hK i pins s σ H E I hf st hg
  subst hP hw hK
  obtain ⟨f0,f1,f2,f3,f4,f5⟩:=hf it (by simp)
  exact L3.zhA I.hand st (by have:n<=i:=hg;omega) fun h' eb=>⟨rfl,I.turned (t':=s.toks) (fun b o hb e=>eb b o hb e) f0 f1 f3 f4 f5⟩
 self:=fun _ _ _ _ _ st h=>wpAny_pyIter_rangeiter st h
section
variable {X:Cx} {tg:Expr}
theorem zmO {pins:List (Addr×Obj)} {σ:St} {H:Hp} {s:Shared} {R:It->Hp->Prop} {E:Value->Shared->Prop} {lo hi:Int} {t u v:Tok} {tk:Nat} (I:Inv X pins σ H s) (h1: -(2^62)<=lo) (h2:lo<2^62) (h3: -(2^62)<=hi) (h4:hi<2^62)
  (q:R (Itr lo (hi - lo).toNat) H):wpAny (model X.prog X.w) X.A (pyIter (.ref s.heap.objs.size)) (PIE X pins σ tg R) E {s with heap:=s.heap.push {cls:= .type "range",data:= .fields #[.int lo t,.int hi u,.int 1 v]},toks:=tk}:=by
 refine wpAny_pyIter_range (IsRange.new ..) (small_one h1 h2 h3 h4) ?_
 have I1:Inv X pins σ H {s with heap:=s.heap.push {cls:= .type "range",data:= .fields #[.int lo t,.int hi u,.int 1 v]},toks:=tk}:=I.kept fun b o e=>qad _ e
 refine ⟨(s.heap.push {cls:= .type "range",data:= .fields #[.int lo t,.int hi u,.int 1 v]}).objs.size,[(s.heap.push {cls:= .type "range",data:= .fields #[.int lo t,.int hi u,.int 1 v]}).objs.size],_,_,H,rfl,
   I1.kept (t':=tk) fun b o e=>qad _ e,zj4 _ lo (hi - lo).toNat,?_,fun b hb=> ?_,q⟩
 ·have e1:lo+((0:Nat):Int)*1=lo:=by simp
  have e2:(((hi - lo).toNat:Nat):Int) - ((0:Nat):Int)=Builtin.Range.rangeSize lo hi 1:=by rw [rangeSize_one];split<;>omega
  show IsRangeIter _ _ (lo+((0:Nat):Int)*1) ((((hi - lo).toNat:Nat):Int) - ((0:Nat):Int)) 1
  rw [e1,e2]
  exact qal _ rfl
 ·have e:b=(s.heap.push {cls:= .type "range",data:= .fields #[.int lo t,.int hi u,.int 1 v]}).objs.size:=by simpa using hb
  subst e
  exact I1.fpOk (qaG _) (I1.hok.fresh (qaG _))
noncomputable def zuf (ta:TA):TI:=fun σ H R=>ta σ H fun vs H1=> ∃ j:Int,vs=[.int j]/\ -(2^62)<=j/\j<2^62/\R (Itr 0 j.toNat) H1
theorem zlY {a:Expr} {ta:TA} {p pos:Pos} (hg:Gl X "range") (hm:X.mg "range"=none) (ha:PA X [a] ta) (hs:starEach [a] X.env=[(false,eval a X.env)]:=by rfl):PI X tg (.Call (.Name "range" p) [a] [] pos) (zuf ta):=by
 intro pins s σ H R I h
 refine Call_ (zgE I hg hm boot_range (PyProof.Rows.callWith_type1 (thn (ha pos pins s σ H _ I h) fun us s1 ⟨vs,H1,I1,r1,q1⟩=> ?_) hs rfl))
 obtain ⟨j,e,q1,q2,q⟩:=q1
 subst e
 cases r1 with
 | cons r rr=>
  cases rr
  obtain ⟨t,rfl⟩:=r
  exact call_range_1 (zmO I1 (by omega) (by omega) q1 q2 (by simpa using q))
noncomputable def zvV (wi:TI) (g:TG) (tb:TS):TS:=fun D σ H=>wi σ H fun J H1=> ∃ W:Nat->Nat->St->Hp->Prop,(∃ m,W 0 m σ H1)/\ ∀ i m σ H,W i m σ H->
 (J.stop i H/\D.nx σ H)\/(J.go i H/\ ∃ N:St->Hp->Prop,(∀ σ' H',N σ' H'-> ∃ m',m'<m/\W (i+1) m' σ' H')/\ ∀ x H',J.yld i H x H'->g x σ H' fun σ2 H2=>tb {D with nx:=N,ct:=N,bk:=D.nx} σ2 H2)
noncomputable def zg7 (fp:List Addr) (h:Heap):List (Addr×Obj):=fp.filterMap fun b=>(h.get? b).map fun o=>(b,o)
theorem zcY {fp:List Addr} {h:Heap} {b:Addr} {o:Obj} (hb:b∈fp) (e:h.get? b=some o):(b,o)∈zg7 fp h:=List.mem_filterMap.mpr ⟨b,hb,by rw [e];rfl⟩
theorem zlh {fp:List Addr} {h:Heap} {p:Addr×Obj} (hp:p∈zg7 fp h):p.1∈fp/\h.get? p.1=some p.2:=by
 obtain ⟨b,hb,e⟩:=List.mem_filterMap.mp hp
 cases q:h.get? b with
 | none=>rw [q] at e;cases e
 | some o=>
  rw [q] at e
  have e':(b,o)=p:=Option.some.inj e
  subst e'
  exact ⟨hb,q⟩
theorem Inv.pinned {pins:List (Addr×Obj)} {σ:St} {H:Hp} {s:Shared} {fp:List Addr} (I:Inv X pins σ H s) (hf: ∀ b∈fp,zmD X pins H b) (ho: ∀ b∈fp, ∃ o,s.heap.get? b=some o/\ ∀ v,o.data≠ .cell v):Inv X (pins++zg7 fp s.heap) σ H s:=
 I.pins_of fun p hp=>(List.mem_append.mp hp).elim (fun z=>I.pin p (qah _ z)) fun z=>by
  obtain ⟨hb,e⟩:=zlh z
  obtain ⟨f0,f1,f2,_⟩:=hf p.1 hb
  obtain ⟨o,e',d⟩:=ho p.1 hb
  rw [e] at e';cases e'
  exact ⟨e,f0,f1,f2,d⟩
theorem Inv.unpinned {pins pl:List (Addr×Obj)} {σ:St} {H:Hp} {s:Shared} (I:Inv X (pins++pl) σ H s):Inv X pins σ H s:=I.pins_of fun p hp=>I.pin p (qah _ (List.mem_append_left _ hp))
theorem zti {iter:Expr} {body:List Stmt} {wi:TI} {g:TG} {tb:TS} {pos:Pos} (hp:PassesOwn (model X.prog X.w) X.A X.env X.xe) (hc:X.calm=true) (hi:PI X tg iter wi) (hg:PG X tg g) (hb:PSs X body tb)
  (hs: ∀ x,foldedSetIterable iter X.env x=pure x:=by intro _;rfl):PS X (.For tg iter body [] pos) (zvV wi g tb):=by
 intro pins s σ H D I h
 refine wpAny_For (thn (hi pins s σ H _ I h) fun v s1 h1=>thn h1 fun itv s2 h2=> ?_) hs
 obtain ⟨it,fp,tn,J,H2,e,I2,T,st2,f2,W,⟨m0,w0⟩,turn⟩:=h2
 subst e
 have stat: ∀ {H':Hp},(∀ b∈fp,H' b=none)-> ∀ b∈fp,zmD X pins H' b:=fun hn b hb=>⟨hn b hb,(f2 b hb).2⟩
 refine codeAny_forLoop_any (fun n s'=> ∃ i σ' H',Inv X pins σ' H' s'/\tn i s'.heap/\(∀ b∈fp,H' b=none)/\W i n σ' H') ?_ m0 ⟨0,σ,H2,I2,st2,fun b hb=>(f2 b hb).1,w0⟩
 rintro n s3 ⟨i,σ3,H3,I3,st3,fr3,w3⟩
 rcases turn i n σ3 H3 w3 with ⟨stop,qn⟩ | ⟨go,N,hN,step⟩
 ·refine wpAny_passesOwn hp (thn (T.done X rfl rfl rfl i pins s3 σ3 H3 X.xe I3 (stat fr3) st3 stop) fun r s4 ⟨hr,I4⟩=> ?_)
  subst hr
  exact wpAny_execs_nil ⟨σ3,H3,I4,qn⟩
 ·refine wpAny_passesOwn hp (thn (T.item X rfl rfl rfl i pins s3 σ3 H3 X.xe I3 (stat fr3) st3 go) fun r s4 ⟨u,hr,h4⟩=> ?_)
  subst hr
  refine wpAny_passesOwn hp (thn h4 fun _ s5 ⟨x,H5,I5,r5,y5,st5,fr5⟩=> ?_)
  have I5':=I5.pinned (stat fr5) (T.obj _ _ st5)
  refine wpAny_passesOwn hp (thn (hg _ s5 σ3 H5 x u _ I5' r5 (step x H5 y5)) fun _ s6 ⟨σ6,H6,I6,q6⟩=> ?_)
  refine wpAny_passesOwn hp (thn (hb _ s6 σ6 H6 _ I6 q6) fun f s7 q7=> ?_)
  have again: ∀ {σ7:St} {H7:Hp},Inv X (pins++zg7 fp s5.heap) σ7 H7 s7->N σ7 H7-> ∃ m,m<n/\ ∃ i σ' H',Inv X pins σ' H' s7/\tn i s7.heap/\(∀ b∈fp,H' b=none)/\W i m σ' H':=fun {σ7 H7} I7 n7=>by
   obtain ⟨m',hm,w7⟩:=hN σ7 H7 n7
   refine ⟨m',hm,i+1,σ7,H7,I7.unpinned,T.keep _ _ _ st5 fun b hb o e=>(I7.pin (b,o) (qah _ (qah _ (zcY hb e)))).1,fun b hb=> ?_,w7⟩
   obtain ⟨o,e,d⟩:=T.obj _ _ st5 b hb
   exact (I7.pin (b,o) (qah _ (qah _ (zcY hb e)))).2.1
  cases f with
  | next=>obtain ⟨σ7,H7,I7,n7⟩:=q7;exact again I7 n7
  | cont=>obtain ⟨σ7,H7,I7,n7⟩:=q7;exact again I7 n7
  | brk=>obtain ⟨σ7,H7,I7,q7⟩:=q7;exact ⟨σ7,H7,I7.unpinned,q7⟩
  | ret v=>obtain ⟨x7,σ7,H7,I7,r7,q7⟩:=q7;exact ⟨x7,σ7,H7,I7.unpinned,r7,q7⟩
end
noncomputable abbrev R2:=V->V->Hp->VK->Prop
noncomputable def OpR (X:Cx) (f:Value->Value->Sem Value) (r:R2):Prop:=
 ∀ (pins:List (Addr×Obj)) (s:Shared) (σ:St) (H:Hp) (x y:V) (v u:Value) (Q:VK),Inv X pins σ H s->zbj x v->zbj y u->r x y H Q->
  wpAny (model X.prog X.w) X.A (f v u) (EP X pins σ Q) X.xe s
noncomputable def UnR (X:Cx) (f:Value->Sem Value) (r:V->Hp->VK->Prop):Prop:=
 ∀ (pins:List (Addr×Obj)) (s:Shared) (σ:St) (H:Hp) (x:V) (v:Value) (Q:VK),Inv X pins σ H s->zbj x v->r x H Q->
  wpAny (model X.prog X.w) X.A (f v) (EP X pins σ Q) X.xe s
noncomputable def zay (X:Cx) (f:Value) (r:List V->Hp->VK->Prop):Prop:=
 ∀ (pins:List (Addr×Obj)) (s:Shared) (σ:St) (H:Hp) (xs:List V) (us:List Value) (Q:VK),Inv X pins σ H s->zaV xs us->r xs H Q->
  wpAny (model X.prog X.w) X.A (call f us) (EP X pins σ Q) X.xe s
noncomputable def zv1 (X:Cx) (r:V->Hp->(Bool->Hp->Prop)->Prop):Prop:=
 ∀ (pins:List (Addr×Obj)) (s:Shared) (σ:St) (H:Hp) (x:V) (v:Value) (Q:Bool->Hp->Prop),Inv X pins σ H s->zbj x v->r x H Q->
  wpAny (model X.prog X.w) X.A (truthy v) (TP X pins σ Q) X.xe s
noncomputable def tOp (r:R2) (ta tb:TE):TE:=fun σ H Q=>ta σ H fun x H1=>tb σ H1 fun y H2=>r x y H2 Q
noncomputable def tUn (r:V->Hp->VK->Prop) (ta:TE):TE:=fun σ H Q=>ta σ H fun x H1=>r x H1 Q
noncomputable def rI (C:Int->Int->Prop) (g:Int->Int->V):R2:=fun x y H Q=> ∃ i j,x= .int i/\y= .int j/\C i j/\Q (g i j) H
noncomputable def rI0 (g:Int->Int->V):R2:=fun x y H Q=> ∃ i j,x= .int i/\y= .int j/\Q (g i j) H
noncomputable def rU (g:Int->V):V->Hp->VK->Prop:=fun x H Q=> ∃ i,x= .int i/\Q (g i) H
section
variable {X:Cx} {a b c:Expr} {ta tb tc:TE} {pos:Pos}
theorem zuy (ha:PE X a ta) (hb:PE X b tb) {pins:List (Addr×Obj)} {s:Shared} {σ:St} {H:Hp} {R:V->V->Hp->Prop} (I:Inv X pins σ H s)
  (h:ta σ H fun x H1=>tb σ H1 fun y H2=>R x y H2) {Q:Value->Shared->Prop} {f:Value->Value->Sem Value}
  (hf: ∀ v u s2 x y H2,Inv X pins σ H2 s2->zbj x v->zbj y u->R x y H2->wpAny (model X.prog X.w) X.A (f v u) Q X.xe s2):
  wpAny (model X.prog X.w) X.A (eval a X.env) (fun v s₁=>wpAny (model X.prog X.w) X.A (eval b X.env) (fun u s₂=>wpAny (model X.prog X.w) X.A (f v u) Q X.xe s₂) X.xe s₁) X.xe s:=by
 refine thn (ha pins s σ H _ I h) fun v s1 ⟨x,H1,I1,r1,q1⟩=> ?_
 refine thn (hb pins s1 σ H1 _ I1 q1) fun u s2 ⟨y,H2,I2,r2,q2⟩=> ?_
 exact hf v u s2 x y H2 I2 r1 r2 q2
theorem zu7 {op:Operator} {r:R2} (ho:OpR X (binaryOp op) r) (ha:PE X a ta) (hb:PE X b tb):PE X (.BinOp a op b pos) (tOp r ta tb):=by
 intro pins s σ H Q I h
 exact wpAny_BinOp (zuy ha hb I h fun v u s2 x y H2 I2 rx ry q=>ho pins s2 σ H2 x y v u Q I2 rx ry q)
theorem zud {op:UnaryOp} {r:V->Hp->VK->Prop} (ho:UnR X (unaryOp op) r) (ha:PE X a ta):PE X (.UnaryOp op a pos) (tUn r ta):=by
 intro pins s σ H Q I h
 exact UnaryOp_ (thn (ha pins s σ H _ I h) fun v s1 ⟨x,H1,I1,r1,q1⟩=>ho pins s1 σ H1 x v Q I1 r1 q1)
theorem opI {f:Value->Value->Sem Value} {C:Int->Int->Prop} {g:Int->Int->Int}
  (rule: ∀ (i j:Int) (t u:Tok) (s:Shared) (Q:Value->Shared->Prop) (E:Value->Shared->Prop),C i j->Q (.int (g i j) s.toks) {s with toks:=s.toks+1}->wpAny (model X.prog X.w) X.A (f (.int i t) (.int j u)) Q E s):
  OpR X f (rI C fun i j=> .int (g i j)):=by
 intro pins s σ H x y v u Q I rx ry h
 obtain ⟨i,j,rfl,rfl,hc,q⟩:=h
 obtain ⟨t,rfl⟩:=rx
 obtain ⟨t',rfl⟩:=ry
 exact rule i j t t' s _ _ hc ⟨.int (g i j),H,I.tok _,⟨_,rfl⟩,q⟩
theorem zuQ {f:Value->Value->Sem Value} {g:Int->Int->Int}
  (rule: ∀ (i j:Int) (t u:Tok) (s:Shared) (Q:Value->Shared->Prop) (E:Value->Shared->Prop),Q (.int (g i j) s.toks) {s with toks:=s.toks+1}->wpAny (model X.prog X.w) X.A (f (.int i t) (.int j u)) Q E s):
  OpR X f (rI0 fun i j=> .int (g i j)):=by
 intro pins s σ H x y v u Q I rx ry h
 obtain ⟨i,j,rfl,rfl,q⟩:=h
 obtain ⟨t,rfl⟩:=rx
 obtain ⟨t',rfl⟩:=ry
 exact rule i j t t' s _ _ ⟨.int (g i j),H,I.tok _,⟨_,rfl⟩,q⟩
theorem ztF {f:Value->Value->Sem Value} {g:Int->Int->Bool}
  (rule: ∀ (i j:Int) (t u:Tok) (s:Shared) (Q:Value->Shared->Prop) (E:Value->Shared->Prop),Q (.bool (g i j)) s->wpAny (model X.prog X.w) X.A (f (.int i t) (.int j u)) Q E s):
  OpR X f (rI0 fun i j=> .bl (g i j)):=by
 intro pins s σ H x y v u Q I rx ry h
 obtain ⟨i,j,rfl,rfl,q⟩:=h
 obtain ⟨t,rfl⟩:=rx
 obtain ⟨t',rfl⟩:=ry
 exact rule i j t t' s _ _ ⟨.bl (g i j),H,I,rfl,q⟩
noncomputable def ztA (i j:Int):Prop:=0<=j/\j<=1000000/\i.natAbs<2^64
noncomputable def zul (i j:Int):Prop:=(-(2^64)<i/\i<2^64)\/(-(2^64)<j/\j<2^64)
theorem zul.ok {i j:Int} (h:zul i j):IntMulOk i j:=by
 rcases h with ⟨h1,h2⟩ | ⟨h1,h2⟩
 ·exact .of_left (intBits_le_64 h1 h2)
 ·exact .of_right (intBits_le_64 h1 h2)
theorem two_pow_nn (k:Nat):(0:Int)<=2^k:=by
 rw [two_pow_cast]
 exact Int.natCast_nonneg _
theorem zrt:OpR X (binaryOp .Add) (rI0 fun i j=> .int (i+j)):=zuQ fun _ _ _ _ _ _ _ q=>add_int q
theorem zrK:OpR X (binaryOp .Sub) (rI0 fun i j=> .int (i - j)):=zuQ fun _ _ _ _ _ _ _ q=>sub_int q
theorem zr8:OpR X (binaryOp .Mult) (rI zul fun i j=> .int (i*j)):=opI fun _ _ _ _ _ _ _ hc q=>mul_int q hc.ok
theorem zrd:OpR X (binaryOp .Mod) (rI (fun _ j=>0<j) fun i j=> .int (i % j)):=opI fun i j _ _ _ _ _ hc q=>by
 have h1:(0:Int)<j:=hc
 exact mod_int' (by omega) (by rw [Int.fmod_eq_emod_of_nonneg i (by omega)];exact q)
theorem zr2:OpR X (binaryOp .Pow) (rI ztA fun i j=> .int (i^j.toNat)):=opI fun _ _ _ _ _ _ _ hc q=>pow_int_small hc.1 hc.2.1 hc.2.2 q
theorem zrV:OpR X (binaryOp .LShift) (rI ztA fun i j=> .int (i*2^j.toNat)):=opI fun _ _ _ _ _ _ _ hc q=>lshift_int_small hc.1 hc.2.1 hc.2.2 q
theorem zs5:OpR X (binaryOp .RShift) (rI (fun _ j=>0<=j) fun i j=> .int (i / 2^j.toNat)):=opI fun i j _ _ _ _ _ hc q=>
 rshift_int hc (by rw [Int.fdiv_eq_ediv_of_nonneg i (two_pow_nn _)];exact q)
theorem zvf:OpR X (binaryOp .BitOr) (rI0 fun i j=> .int (Builtin.bitOr i j)):=zuQ fun _ _ _ _ _ _ _ q=>or_int q
theorem unI {f:Value->Sem Value} {g:Int->Int}
  (rule: ∀ (i:Int) (t:Tok) (s:Shared) (Q:Value->Shared->Prop) (E:Value->Shared->Prop),Q (.int (g i) s.toks) {s with toks:=s.toks+1}->wpAny (model X.prog X.w) X.A (f (.int i t)) Q E s):
  UnR X f (rU fun i=> .int (g i)):=by
 intro pins s σ H x v Q I rx h
 obtain ⟨i,rfl,q⟩:=h
 obtain ⟨t,rfl⟩:=rx
 exact rule i t s _ _ ⟨.int (g i),H,I.tok _,⟨_,rfl⟩,q⟩
theorem zsr:UnR X (unaryOp .USub) (rU fun i=> .int (-i)):=unI fun _ _ _ _ _ q=>neg_int q
end
section
variable {X:Cx} {a b c:Expr} {ta tb tc:TE} {pos:Pos}
theorem zhp {pins:List (Addr×Obj)} {σ:St} {H:Hp} {s:Shared} {Q:VK} {k k':Bool} (I:Inv X pins σ H s) (q:Q (.bl k) H) (e:k=k'):EP X pins σ Q (.bool k') s:=by
 subst e
 exact ⟨.bl k,H,I,rfl,q⟩
theorem ztM:OpR X (compareOp .Lt) (rI0 fun i j=> .bl (decide (i<j))):=ztF fun _ _ _ _ _ _ _ q=>lt_int q
theorem zu2:OpR X (compareOp .LtE) (rI0 fun i j=> .bl (decide (i<=j))):=ztF fun _ _ _ _ _ _ _ q=>le_int q
theorem zuN:OpR X (compareOp .Gt) (rI0 fun i j=> .bl (decide (j<i))):=ztF fun _ _ _ _ _ _ _ q=>gt_int q
theorem ztW:OpR X (compareOp .GtE) (rI0 fun i j=> .bl (decide (j<=i))):=ztF fun _ _ _ _ _ _ _ q=>ge_int q
theorem zkG:OpR X (compareOp .Is) (fun x y H Q=>y= .non/\Q (.bl (decide (x= .non))) H):=by
 intro pins s σ H x y v u Q I rx ry h
 obtain ⟨rfl,q⟩:=h
 cases ry
 refine is_none_gen (zhp I q ?_)
 cases x<;>first
  | (cases rx;rfl)
  | (obtain ⟨t,rfl⟩:=rx;rfl)
theorem OpR.or {f:Value->Value->Sem Value} {r r':R2} (h:OpR X f r) (h':OpR X f r'):OpR X f (fun x y H Q=>r x y H Q\/r' x y H Q):=by
 intro pins s σ H x y v u Q I rx ry q
 rcases q with q | q
 ·exact h pins s σ H x y v u Q I rx ry q
 ·exact h' pins s σ H x y v u Q I rx ry q
theorem zo9 {op:CmpOp} {r:R2} (ho:OpR X (compareOp op) r) (ha:PE X a ta) (hb:PE X b tb) (hm:behindInMarks op b=false):PE X (.Compare a [op] [b] pos) (tOp r ta tb):=by
 intro pins s σ H Q I h
 exact wpAny_Compare1 (zuy ha hb I h fun v u s2 x y H2 I2 rx ry q=>ho pins s2 σ H2 x y v u Q I2 rx ry q) hm
noncomputable def zt4 (t:TE):TT:=fun σ H Q=>t σ H fun x H'=> ∃ k,x= .bl k/\Q k H'
theorem zp3 {op:CmpOp} {r:R2} (ho:OpR X (compareOp op) r) (ha:PE X a ta) (hb:PE X b tb) (hm:behindInMarks op b=false):PT X (.Compare a [op] [b] pos) (zt4 (tOp r ta tb)):=by
 intro pins s σ H Q I h
 refine wpAny_isTrue_Compare1 (thn (ha pins s σ H _ I h) fun v s1 ⟨x,H1,I1,r1,q1⟩=>thn (hb pins s1 σ H1 _ I1 q1) fun u s2 ⟨y,H2,I2,r2,q2⟩=>
   thn (ho pins s2 σ H2 x y v u _ I2 r1 r2 q2) fun c s3 ⟨z,H3,I3,r3,k,e,q3⟩=> ?_) hm
 subst e
 cases r3
 exact wpAny_truthy_bool ⟨H3,I3,q3⟩
noncomputable def zvm (K:W.Frag) (x:V) (H:Hp) (k:Bool):Prop:=
 match x with
 | .non=>k=false
 | .bl b=>k=b
 | .int i=>k=(i != 0)
 | .str y=>y.length<=sizeLine/\k=((y.length:Int) != 0)
 | .byt y=>y.size<=sizeLine/\k=((y.size:Int) != 0)
 | .ref p=>(∃ xs,SqL K H p xs/\k= !xs.isEmpty)\/(∃ xs,SqT K H p xs/\k= !xs.isEmpty)\/ ∃ kvs,H p=some (.dK kvs)/\k= !kvs.isEmpty
 | _=>False
theorem zkb {κ:Type} {kvs:List (κ×V)} {vs:List (κ×Value)} (r:KV kvs vs):(!vs.isEmpty)= !kvs.isEmpty:=by
 cases r<;>rfl
theorem zfG {xs:List V} {its:List Value} (r:zaV xs its):(!its.toArray.isEmpty)= !xs.isEmpty:=by
 cases r<;>simp
theorem zhb:(sizeLine:Nat)<2^63:=by rw [sizeLine_eq];decide
theorem zq9:zv1 X (fun x H Q=> ∃ k,zvm X.K x H k/\Q k H):=by
 intro pins s σ H x v Q I rx h
 obtain ⟨k,e,q⟩:=h
 have hl:=zhb
 have hs:sizeLine=16777216:=sizeLine_eq
 cases x with
 | non=>
  cases rx
  have e':k=false:=e
  subst e'
  exact truthy_none ⟨H,I,q⟩
 | bl b=>
  cases rx
  have e':k=b:=e
  subst e'
  exact wpAny_truthy_bool ⟨H,I,q⟩
 | int i=>
  obtain ⟨t,rfl⟩:=rx
  have e':k=(i != 0):=e
  subst e'
  exact PySem.P.truthy_int ⟨H,I,q⟩
 | str y=>
  obtain ⟨t,rfl⟩:=rx
  obtain ⟨hy,e'⟩:y.length<=sizeLine/\k=((y.length:Int) != 0):=e
  subst e'
  exact PySem.P.truthy_str (by omega) ⟨H,I.tok _,q⟩
 | byt y=>
  obtain ⟨t,rfl⟩:=rx
  obtain ⟨hy,e'⟩:y.size<=sizeLine/\k=((y.size:Int) != 0):=e
  subst e'
  exact W.truthy_bytes (by omega) ⟨H,I.tok _,q⟩
 | ref p=>
  cases rx
  have e':(∃ xs,SqL X.K H p xs/\k= !xs.isEmpty)\/(∃ xs,SqT X.K H p xs/\k= !xs.isEmpty)\/ ∃ kvs,H p=some (.dK kvs)/\k= !kvs.isEmpty:=e
  rcases e' with ⟨xs,hx,e'⟩ | ⟨xs,hx,e'⟩ | ⟨kvs,hx,e'⟩
  ·subst e'
   obtain ⟨its,r,pl,hz⟩:=I.list hx
   have hlen:=r.length
   exact wpAny_truthy_list pl.isList (by simp only [qar];omega) ⟨H,I.tok _,by rw [zfG r];exact q⟩
  ·subst e'
   obtain ⟨its,r,pl,hz⟩:=I.tuple hx
   have hlen:=r.length
   exact truthy_tuple pl (by simp only [qar];omega) ⟨H,I.tok _,by rw [zfG r];exact q⟩
  ·subst e'
   obtain ⟨hz,hS,vs,r,m⟩:kvs.length<=sizeLine/\(p==sysModules)=false/\ ∃ vs,KV kvs vs/\s.heap.DictOf (zdX X.prog X.w) p vs:=I.hok p _ hx
   have hlen:kvs.length=vs.length:=Paired.length r
   exact wpAny_truthy_dict hS m (by omega) ⟨H,I.tok _,by rw [zkb r];exact q⟩
 | _=>exact (show False from e).elim
theorem zmM (ha:PE X a ta) (he: ∀ whole,isTrue a X.env whole=(do let v<-whole;standAt a.pos;holding [v] (truthy v))):
  PT X a (fun σ H Q=>ta σ H fun x H'=> ∃ k,zvm X.K x H' k/\Q k H'):=by
 intro pins s σ H Q I h
 exact isTrue_plain (thn (ha pins s σ H _ I h) fun v s1 ⟨x,H1,I1,r1,q1⟩=>zq9 pins s1 σ H1 x v Q I1 r1 q1) (he _)
theorem zjZ:OpR X (binaryOp .Add) (fun x y H Q=> ∃ i j,x= .str i/\y= .str j/\i.length+j.length<=sizeLine/\Q (.str (i++j)) H):=by
 intro pins s σ H x y v u Q I rx ry h
 obtain ⟨i,j,rfl,rfl,hz,q⟩:=h
 obtain ⟨t,rfl⟩:=rx
 obtain ⟨t',rfl⟩:=ry
 exact add_str (fun t' tk=>⟨.str (i++j),H,I.tok _,⟨_,rfl⟩,q⟩) hz
theorem zdp {x:V} {us:List Value} (r:zaV [x] us): ∃ u,us=[u]/\zbj x u:=by
 cases r with
 | cons r1 r2=>cases r2;exact ⟨_,rfl,r1⟩
theorem zpE {x y:V} {us:List Value} (r:zaV [x,y] us): ∃ u w',us=[u,w']/\zbj x u/\zbj y w':=by
 cases r with
 | cons r1 r2=>
  cases r2 with
  | cons r3 r4=>cases r4;exact ⟨_,_,rfl,r1,r3⟩
theorem zmq (hc:X.calm=true):zay X (.builtin "max") (fun xs H Q=> ∃ i j,xs=[.int i,.int j]/\Q (.int (if j>i then j else i)) H):=by
 intro pins s σ H xs us Q I r h
 obtain ⟨i,j,rfl,q⟩:=h
 obtain ⟨u,w',rfl,⟨t,rfl⟩,⟨t',rfl⟩⟩:=zpE r
 refine max_two_ints (I.ok.hd hc) fun h' tk k=>⟨_,H,I.kept k,?_,q⟩
 by_cases hj:j>i
 ·rw [if_pos hj,if_pos hj];exact ⟨_,rfl⟩
 ·rw [if_neg hj,if_neg hj];exact ⟨_,rfl⟩
theorem zkU (hc:X.calm=true):zay X (.builtin "min") (fun xs H Q=> ∃ i j,xs=[.int i,.int j]/\Q (.int (if j<i then j else i)) H):=by
 intro pins s σ H xs us Q I r h
 obtain ⟨i,j,rfl,q⟩:=h
 obtain ⟨u,w',rfl,⟨t,rfl⟩,⟨t',rfl⟩⟩:=zpE r
 refine min_two_ints (I.ok.hd hc) fun h' tk k=>⟨_,H,I.kept k,?_,q⟩
 by_cases hj:j<i
 ·rw [if_pos hj,if_pos hj];exact ⟨_,rfl⟩
 ·rw [if_neg hj,if_neg hj];exact ⟨_,rfl⟩
end
structure zvd (h:Heap) (x dx C:Addr) (mA:Str->Option Value):Prop where
 obj:h.get? x=some (W.instObj C dx)
 ns:h.Ns1 dx mA
 ne:dx≠x
theorem zkv {h:Heap} {dx:Addr} {mA:Str->Option Value} (n:h.Ns1 dx mA): ∃ od,h.get? dx=some od/\ ∀ name,W.lookIn name od=some (mA name):=by
 obtain ⟨o,es,ep,ho,hd,hk,_,hm⟩:=n
 refine ⟨o,ho,fun name=> ?_⟩
 have e:=hm name
 unfold nsFind findBy at e
 rw [<- Array.find?_toList] at e
 unfold W.lookIn
 rw [hd]
 dsimp only
 split
 ·rename_i y q
  rw [q] at e
  exact congrArg some e
 ·rename_i q
  rw [q] at e
  have a:es.toList.any (·.refKey)=false:=by
   rw [List.any_eq_false]
   intro y hy
   obtain ⟨z,t,hkey⟩:=hk y (Array.mem_toList_iff.mp hy)
   simp [DictEntry.refKey,hkey]
  have a': ¬es.toList.any (·.refKey)=true:=by rw [a];exact Bool.false_ne_true
  rw [if_neg a']
  exact congrArg some e
theorem zvd.look {h:Heap} {x dx C:Addr} {mA:Str->Option Value} (I:zvd h x dx C mA): ∃ od,W.InstAt h x (W.instObj C dx) C (some od)/\ ∀ name,W.lookIn name od=some (mA name):=
 let ⟨od,ho,hl⟩:=zkv I.ns
 ⟨od,⟨I.obj,rfl,rfl,ho⟩,hl⟩
section
variable {prog:Program} {w:World} {A:Around} {E:Value->Shared->Prop} {s:Shared} {K:W.Frag} {x dx C f:Addr} {mA:Str->Option Value} {name:Str} {v:Value}
end
section
variable {P:Program} {w:World} {H H':Hp} {h h':Heap} {a C dx:Addr} {fs fs':List (Str×V)}
theorem zpL (hok:HOk P w H h) (e:H a=some (.ins C dx fs)): ∃ mA,zvd h a dx C mA/\(∀ f,zuB (fs.lookup f) (mA f))/\PySem.Within mA (fs.map (·.1))/\fs.length<=1000/\H dx=some (.own a):=by
 obtain ⟨d,z,ne,ob,mA,n,r,q⟩:=(show zbI P w H h a (.ins C dx fs) from hok a _ e)
 exact ⟨mA,⟨ob,n,ne⟩,r,q,z,d⟩
end
structure Cls (K:W.Frag) (C:Addr):Prop where
 pg:W.plainGet K C Str.empty=true
 hd:W.hasDictIn K C=true
 po:W.plainOver K C=true
 sa:W.findIn K (.ref C) "__setattr__"=some (some (.builtin "object.__setattr__"))
theorem Cls.get {K:W.Frag} {C:Addr} (c:Cls K C) (f:Str):W.plainGet K C f=true:=c.pg
structure Con (K:W.Frag) (C:Addr) (f:Str) (v:V) (u:Value):Prop where
 at_:W.findIn K (.ref C) f=some (some u)
 rel:zbj v u
 get:W.specialIn K u "__get__"=some none
 cp:W.copiedNames.contains f=false
structure zv9 (K:W.Frag) (C:Addr) (m:Str) (f:Addr):Prop where
 at_:W.findIn K (.ref C) m=some (some (.ref f))
 fn:W.isFn K (.ref f)=true
 kp:W.keepIn K (.ref f)=true
section
variable {X:Cx} {pins:List (Addr×Obj)} {σ:St} {H:Hp} {s:Shared} {a C dx:Addr} {fs:List (Str×V)} {f:Str} {v:V} {A:Around} {E:Value->Shared->Prop}
theorem Inv.made (I:Inv X pins σ H s):Inv X pins σ (upd (upd H s.heap.objs.size (.own (s.heap.objs.size+1))) (s.heap.objs.size+1) (.ins C s.heap.objs.size []))
  {s with heap:=(s.heap.push W.emptyDict).push (W.instObj C s.heap.objs.size)}:=by
 have e1:(s.heap.push W.emptyDict).get? s.heap.objs.size=some W.emptyDict:=qal s.heap rfl
 have e2:((s.heap.push W.emptyDict).push (W.instObj C s.heap.objs.size)).get? (s.heap.objs.size+1)=some (W.instObj C s.heap.objs.size):=by
  have:=qal (s.heap.push W.emptyDict) (o:=W.instObj C s.heap.objs.size) rfl
  rwa [Heap.size_push] at this
 have e3:(s.heap.push W.emptyDict).Ns s.heap.objs.size (fun _=>none):=⟨W.emptyDict, #[],_,e1,rfl,(fun e he=>absurd he (by simp)),fun _=>rfl⟩
 have I1:=I.laid (a:=s.heap.objs.size) (o:= .own (s.heap.objs.size+1)) (h':=s.heap.push W.emptyDict) (t':=s.toks) (fun b u q=>qad _ q) (qaG _) ⟨_,e1⟩
 refine I1.laid (a:=s.heap.objs.size+1) (o:= .ins C s.heap.objs.size []) (t':=s.toks) (fun b u q=>qad _ q) (Nat.le_of_eq (Heap.size_push _ _)) ?_
 have ne:s.heap.objs.size≠s.heap.objs.size+1:=qaD (Nat.lt_succ_self _)
 refine ⟨by rw [zau ne,zaL],Nat.zero_le _,ne,e2,fun _=>none,(Heap.Ns1.of_empty e3).at fun o q=>qad _ q,fun _=>True.intro,fun y hy=>absurd rfl hy⟩
end
section
variable {X:Cx} {o e value:Expr} {f:Str} {pos pos' tpos:Pos} {ta tv:TE}
end
section
variable {X:Cx} {pins:List (Addr×Obj)} {σ:St} {H:Hp} {s:Shared} {A:Around} {E:Value->Shared->Prop} {Q:Value->Shared->Prop} {c:Value} {b:Bool}
inductive ziy (K:W.Frag) (H:Hp):V->Value->Prop where
 | non:ziy K H .non (.type "NoneType")
 | bl (x:Bool):ziy K H (.bl x) (.type "bool")
 | int (i:Int):ziy K H (.int i) (.type "int")
 | str (x:Str):ziy K H (.str x) (.type "str")
 | flt (x:UInt64):ziy K H (.flt x) (.type "float")
 | lst {a:Addr} {xs:List V} (e:H a=some (.lst xs)):ziy K H (.ref a) (.type "list")
 | frz {a:Addr} {o:Obj} {xs:List V} (e:H a=some (.frz o (.lst xs))):ziy K H (.ref a) (.type "list")
 | tup {a:Addr} {xs:List V} (e:H a=some (.tup xs)):ziy K H (.ref a) (.type "tuple")
 | dK {a:Addr} {kvs:List (Key×V)} (e:H a=some (.dK kvs)):ziy K H (.ref a) (.type "dict")
 | dT {a:Addr} {kvs:List (List Key×V)} (e:H a=some (.dT kvs)):ziy K H (.ref a) (.type "dict")
 | ins {a C dx:Addr} {fs:List (Str×V)} (e:H a=some (.ins C dx fs)) (cl:Cls K C) (ha:W.findIn K (.ref C) "__class__"=some (some (.builtin "object.__class__")))
   (hn:W.specialIn K (.builtin "object.__class__") "__get__"=some (some (.builtin "getset_descriptor.__get__"))) (htk:W.takesIn K (.builtin "object.__class__")=some true)
   (hm:W.mroIn K C (.type "object")=some true):ziy K H (.ref a) (.ref C)
theorem zmx {x:V} {u t:Value} (I:Inv X pins σ H s) (rx:zbj x u) (ty:ziy X.K H x t) (e:W.kitOne X.K t c=some b) (h: ∀ tk,Q (.bool b) {s with toks:=tk}):
  wpAny (model X.prog X.w) A (call (.builtin "isinstance") [u,c]) Q E s:=by
 cases ty with
 | non=>cases (show u=Value.none from rx);exact W.kia_one W.kitx_none I.kIn True.intro e (fun z=>nomatch z) h
 | bl y=>cases (show u=Value.bool y from rx);exact W.kia_one W.kitx_bool I.kIn True.intro e (fun z=>nomatch z) h
 | int i=>obtain ⟨t,q⟩:=(show ∃ t,u=Value.int i t from rx);cases q;exact W.kia_one W.kitx_int I.kIn True.intro e (fun z=>nomatch z) h
 | str y=>obtain ⟨t,q⟩:=(show ∃ t,u=Value.str y t from rx);cases q;exact W.kia_one W.kitx_str I.kIn True.intro e (fun z=>nomatch z) h
 | flt y=>obtain ⟨t,q⟩:=(show ∃ t,u=Value.float y t from rx);cases q;exact W.kia_one W.kitx_float I.kIn True.intro e (fun z=>nomatch z) h
 | @lst a xs ea=>
  cases (show u=Value.ref a from rx)
  obtain ⟨_,_,n,_,h1⟩:=(show zbI X.prog X.w H s.heap a (.lst xs) from I.hok a _ ea)
  exact W.kia_one W.kitx_list I.kIn ⟨_,h1,rfl⟩ e (fun z=>nomatch z) h
 | @frz a ob xs ea=>
  cases (show u=Value.ref a from rx)
  obtain ⟨_,_,_,n,_,h1⟩:=(show zbI X.prog X.w H s.heap a (.frz ob (.lst xs)) from I.hok a _ ea)
  exact W.kia_one W.kitx_list I.kIn ⟨_,h1,rfl⟩ e (fun z=>nomatch z) h
 | @tup a xs ea=>
  cases (show u=Value.ref a from rx)
  obtain ⟨_,_,_,p⟩:=(show zbI X.prog X.w H s.heap a (.tup xs) from I.hok a _ ea)
  obtain ⟨o,h1,h2,_⟩:=p
  exact W.kia_one W.kitx_tuple I.kIn ⟨o,h1,h2⟩ e (fun z=>nomatch z) h
 | @dK a kvs ea=>
  cases (show u=Value.ref a from rx)
  obtain ⟨_,_,vs,_,p⟩:=(show zbI X.prog X.w H s.heap a (.dK kvs) from I.hok a _ ea)
  obtain ⟨o,es,ep,h1,h2,_⟩:=p
  exact W.kia_one W.kitx_dict I.kIn ⟨o,h1,h2.1⟩ e (fun z=>nomatch z) h
 | @dT a kvs ea=>
  cases (show u=Value.ref a from rx)
  obtain ⟨_,_,xs,_,o,es,ep,h1,h2,_⟩:=(show zbI X.prog X.w H s.heap a (.dT kvs) from I.hok a _ ea)
  exact W.kia_one W.kitx_dict I.kIn ⟨o,h1,h2.1⟩ e (fun z=>nomatch z) h
 | @ins a C dx fs ea cl ha hn htk hm=>
  cases (show u=Value.ref a from rx)
  obtain ⟨mA,O,_⟩:=zpL I.hok ea
  obtain ⟨od,J,_⟩:=O.look
  exact W.kia_one (W.kitx_own (cl.get _) cl.hd ha hn htk hm) I.kIn J e (fun z=>nomatch z) h
end
structure zda (k:Nat) (A:Around):Prop where
 hd:A.handled=none
 dp:A.depth+3*k+5<recursionLimit
 un:A.units+16*k+200<cLine
theorem zda.mono {j k:Nat} {A:Around} (r:zda k A) (h:j<=k):zda j A:=⟨r.hd,by have:=r.dp;omega,by have:=r.un;omega⟩
theorem zda.deeper {k:Nat} {A:Around} (r:zda (k+1) A) (env:Env):zda k (A.deeper env):=
 ⟨r.hd,by have:=r.dp;show A.depth+1+3*k+5<_;omega,by have:=r.un;show A.units+3+16*k+200<_;omega⟩
theorem zda.in1 {k:Nat} {A:Around} (r:zda (k+1) A):zda k A.in1:=
 ⟨r.hd,by have:=r.dp;show A.depth+3*k+5<_;omega,by have:=r.un;show A.units+1+16*k+200<_;omega⟩
theorem zda.depth {k:Nat} {A:Around} (r:zda k A):A.depth<recursionLimit:=by have:=r.dp;omega
theorem zda.units {k:Nat} {A:Around} (r:zda k A):A.units+64<cLine:=by have:=r.un;omega
noncomputable def zvF:TA:=fun _ H Q=>Q [] H
noncomputable def zuM (ta:TE) (tr:TA):TA:=fun σ H Q=>ta σ H fun x H1=>tr σ H1 fun xs H2=>Q (x::xs) H2
section
variable {X:Cx} {e:Expr} {es:List Expr} {te:TE} {t:TA} {pos:Pos}
theorem zdc:PA X [] zvF:=fun _ _ _ _ H Q I h=>Calls.spliced_nil ⟨[],H,I,.nil,h⟩
theorem zbK (ha:PE X e te) (hr:PA X es t) (hs:starEach (e::es) X.env=(false,eval e X.env)::starEach es X.env:=by rfl):PA X (e::es) (zuM te t):=by
 intro pos pins s σ H Q I h
 rw [hs]
 show wpAny _ _ (spliced ((false,eval e X.env)::backTo pos (starEach es X.env))) _ _ s
 refine Calls.spliced_cons (thn (ha pins s σ H _ I h) fun u s1 ⟨x,H1,I1,r1,q1⟩=> ?_)
 exact thn (hr pos pins s1 σ H1 _ I1 q1) fun us s2 ⟨xs,H2,I2,r2,q2⟩=>⟨x::xs,H2,I2,.cons r1 r2,q2⟩
noncomputable def zvZ (t:TA):TE:=fun σ H Q=>t σ H fun xs H1=>xs.length<=sizeLine/\ ∀ p,H1 p=none->Q (.ref p) (upd H1 p (.tup xs))
noncomputable def zqX (t:TA):TE:=fun σ H Q=>t σ H fun xs H1=>xs.length<=sizeLine/\ ∀ p,H1 p=none->Q (.ref p) (upd H1 p (.lst xs))
theorem zrg {x1} (h:PA X es t):PE X (.Tuple es x1 pos) (zvZ t):=by
 intro pins s σ H Q I hq
 refine wpAny_Tuple_spliced (thn (h pos pins s σ H _ I hq) fun us s1 ⟨xs,H1,I1,r,z,q⟩=>⟨by rw [<- r.length];exact z,?_⟩)
 have hf:H1 s1.heap.objs.size=none:=I1.hok.fresh (qaG _)
 refine ⟨.ref s1.heap.objs.size,upd H1 s1.heap.objs.size (.tup xs),I1.laid (t':=s1.toks) (fun b u e=>qad _ e) (qaG _) ?_,rfl,q _ hf⟩
 exact ⟨z,us,r,⟨_,qal _ rfl,rfl,_,rfl⟩⟩
theorem zon (h:PA X es t):PE X (.List es pos) (zqX t):=by
 intro pins s σ H Q I hq
 refine wpAny_List_spliced (thn (h pos pins s σ H _ I hq) fun us s1 ⟨xs,H1,I1,r,z,q⟩=>⟨by rw [<- r.length];exact z,?_⟩)
 have hf:H1 s1.heap.objs.size=none:=I1.hok.fresh (qaG _)
 refine ⟨.ref s1.heap.objs.size,upd H1 s1.heap.objs.size (.lst xs),I1.laid (t':=s1.toks) (fun b u e=>qad _ e) (qaG _) ?_,rfl,q _ hf⟩
 exact ⟨z,us,0,r,qal _ rfl⟩
end
noncomputable abbrev Sp:=List V->Hp->VK->XK->Prop
noncomputable abbrev CXT:=List Env->Hp->Shared->XK->Value->Shared->Prop
structure zn4 (P:Program) (w:World) (K:W.Frag) (mg:Str->Option Value) (base:Heap) (A:Around) (outer:List Env) (s:Shared) (H:Hp):Prop where
 frames:A.frames=some outer
 mod:Mod K mg base
 bs: ∀ b o,base.get? b=some o->s.heap.get? b=some o/\H b=none
 bsz:base.objs.size<=s.heap.objs.size
 funs:s.heap.FunFrames base outer
 frf: ∀ b∈frs outer,H b=none
 hok:HOk P w H s.heap
 bare:AllBare s.gens
 hand:zhj A H
noncomputable def CE (outer:List Env) (P:Program) (w:World) (H:Hp) (s:Shared) (Q:VK) (u:Value) (s':Shared):Prop:=
 ∃ v H',s'.os=s.os/\AllBare s'.gens/\Un (frs outer) [] H H' s.heap s'.heap/\HOk P w H' s'.heap/\zbj v u/\Q v H'
noncomputable def CR (CX:CXT) (outer:List Env) (P:Program) (w:World) (H:Hp) (s:Shared) (Q:VK) (E:XK) (r:Result) (s':Shared):Prop:=
 match r with
 | .ok (.ret u)=>CE outer P w H s Q u s'
 | .ok _=>False
 | .error e=>CX outer H s E e s'
structure zbG (P:Program) (w:World) (K:W.Frag) (mg:Str->Option Value) (base:Heap) (CX:CXT) (k:Nat) (f:Addr) (fd:FuncData) (ps:List Str) (sp:Sp):Prop where
 len: ∀ vs H Q E,sp vs H Q E->vs.length=ps.length
 run: ∀ (A:Around) (outer:List Env) (s:Shared) (H:Hp) (args:Args) (us:List Value) (vs:List V) (Q:VK) (E:XK),zda k A->zn4 P w K mg base A outer s H->BindsTo s fd args (ps.zip us)->zaV vs us->sp vs H Q E->
  codeAny (model P w) A (.call (.ref f) args) (CR CX outer P w H s Q E) s
theorem zbG.mono {P:Program} {w:World} {K:W.Frag} {mg:Str->Option Value} {base:Heap} {CX:CXT} {j k:Nat} {f:Addr} {fd:FuncData} {ps:List Str} {sp:Sp} (F:zbG P w K mg base CX j f fd ps sp) (h:j<=k):
  zbG P w K mg base CX k f fd ps sp:=⟨F.len,fun A outer s H args us vs Q E hr=>F.run A outer s H args us vs Q E (hr.mono h)⟩
theorem zbG.imp {P:Program} {w:World} {K:W.Frag} {mg:Str->Option Value} {base:Heap} {CX:CXT} {k:Nat} {f:Addr} {fd:FuncData} {ps:List Str} {sp sp':Sp} (F:zbG P w K mg base CX k f fd ps sp)
  (h: ∀ vs H Q E,sp' vs H Q E->sp vs H Q E):zbG P w K mg base CX k f fd ps sp':=
 ⟨fun vs H Q E q=>F.len vs H Q E (h _ _ _ _ q),fun A outer s H args us vs Q E hr he hb hv hs=>F.run A outer s H args us vs Q E hr he hb hv (h _ _ _ _ hs)⟩
theorem zn4.in1 {P:Program} {w:World} {K:W.Frag} {mg:Str->Option Value} {base:Heap} {A:Around} {outer:List Env} {s:Shared} {H:Hp} (e:zn4 P w K mg base A outer s H):
  zn4 P w K mg base A.in1 outer s H:=⟨e.frames,e.mod,e.bs,e.bsz,e.funs,e.frf,e.hok,e.bare,e.hand⟩
section
variable {X:Cx} {pins:List (Addr×Obj)} {σ:St} {H:Hp} {s s':Shared}
theorem Inv.env0 (I:Inv X pins σ H s):zn4 X.prog X.w X.K X.mg X.base X.A X.stack s H:=
 ⟨I.ok.frames,I.ok.mod,I.bs,qaE I.ok.bsz I.sz,I.stack,I.stkFree,I.hok,I.bare,I.handA⟩
theorem Inv.after {Q:VK} {u:Value} (I:Inv X pins σ H s) (h:CE X.stack X.prog X.w H s Q u s'):EP X pins σ Q u s':=by
 obtain ⟨v,H',os,bare,un,hok,r,q⟩:=h
 obtain ⟨hh,g,d,t,os'⟩:=s'
 obtain rfl:os'=s.os:=os
 exact ⟨v,H',I.call (h':=hh) (g':=g) (d':=d) (t':=t) (ch:=[]) un hok bare (fun b z=>absurd z (by simp)),r,q⟩
end
noncomputable def ztN (sp:Sp) (dvs:List V) (E:XK) (t:TA):TE:=fun σ H Q=>t σ H fun vs H1=>sp (vs++dvs) H1 Q E
noncomputable def zaF (K:W.Frag) (fd:FuncData) (ps:List Str) (ds:List Value):Prop:=
 ∀ (s:Shared) (us:List Value),K.In s.heap->(us++ds).length=ps.length->BindsTo s fd ⟨us,[]⟩ (ps.zip (us++ds))
theorem zaF.all {K:W.Frag} {fd:FuncData} {ps:List Str} (h: ∀ us:List Value,us.length=ps.length->bindArgs fd ⟨us,[]⟩=pure (ps.zip us)):zaF K fd ps []:=fun s us _ hl=>by
 rw [List.append_nil] at hl ⊢
 exact .of_eq (h us hl)
noncomputable def zc7 (CX:CXT) (X:Cx) (E:XK):Prop:= ∀ (pins:List (Addr×Obj)) (σ:St) (H:Hp) (s:Shared) (e:Value) (s':Shared),Inv X pins σ H s->CX X.stack H s E e s'->X.xe e s'
section
variable {X:Cx} {CX:CXT} {k:Nat} {f C:Addr} {fd:FuncData} {ps:List Str} {sp:Sp} {dvs:List V} {ds:List Value} {E:XK} {x m:Str} {p pos apos:Pos} {e o:Expr} {es:List Expr} {ta:TE} {t:TA}
theorem zrj {pins:List (Addr×Obj)} {σ:St} {H:Hp} {s:Shared} {Q:VK} {us:List Value} {vs:List V} (F:zbG X.prog X.w X.K X.mg X.base CX k f fd ps sp) (hr:zda k X.A) (hb:zaF X.K fd ps ds) (hd:zaV dvs ds) (hx:zc7 CX X E)
  (I:Inv X pins σ H s) (r:zaV vs us) (h:sp (vs++dvs) H Q E):wpAny (model X.prog X.w) X.A (call (.ref f) us) (EP X pins σ Q) X.xe s:=by
 have r2:zaV (vs++dvs) (us++ds):=r.append hd
 have hl:(us++ds).length=ps.length:=by rw [<- r2.length];exact F.len _ _ _ _ h
 refine wpAny_call (codeAny_mono (F.run X.A X.stack s H ⟨us,[]⟩ (us++ds) (vs++dvs) Q E hr I.env0 (hb s us I.kIn hl) r2 h) fun r s' hq=> ?_)
 cases r with
 | error e=>exact hx pins σ H s e s' I hq
 | ok fl=>
  cases fl with
  | ret u=>exact I.after hq
  | next=>exact False.elim hq
  | brk=>exact False.elim hq
  | cont=>exact False.elim hq
theorem zhS (F:zbG X.prog X.w X.K X.mg X.base CX k f fd ps sp) (hr:zda k X.A) (hg:Gl X x) (hm:X.mg x=some (.ref f)) (hk:W.keepIn X.K (.ref f)=true) (hb:zaF X.K fd ps ds) (hd:zaV dvs ds) (hx:zc7 CX X E)
  (ha:PA X (e::es) t) (hdb:(x==("__debug__":Str))=false:=by decide) (he:starEach (e::es) X.env=(false,eval e X.env)::starEach es X.env:=by rfl) (hpl:(backTo pos (starEach es X.env)).any (·.1)=false:=by rfl):
  PE X (.Call (.Name x p) (e::es) [] pos) (ztN sp dvs E t):=by
 intro pins s σ H Q I h
 refine wpAny_Call_Name_kw (zh2 I hg hm ?_ hdb)
 refine W.callWith_K (h₀:=X.base) I.ok.mod.kin hk (thn (ha pos pins s σ H _ I h) fun us s1 ⟨vs,H1,I1,r,q⟩=>⟨I1.kIn,?_⟩) he hpl
 exact zrj F hr hb hd hx I1 r q
structure Mk (K:W.Frag) (C f:Addr):Prop where
 makes:W.makesIn K C=true
 init:W.findIn K (.ref C) "__init__"=some (some (.ref f))
 fn:W.isFn K (.ref f)=true
 kp:W.keepIn K (.ref C)=true
end
section
variable {X:Cx} {CX:CXT} {k:Nat} {f C:Addr} {fd:FuncData} {ps ks:List Str} {sp:Sp} {E:XK} {x m:Str} {p pos apos kpos:Pos} {e o:Expr} {es:List Expr} {kws:List Keyword} {te ta:TE} {t tk:TA} {nm:Option Str}
structure zvp (K:W.Frag) (fd:FuncData) (ps ks:List Str) (g:List Value->List Value->List Value) (gV:List V->List V->List V):Prop where
 to: ∀ (s:Shared) (us ws:List Value),K.In s.heap->(g us ws).length=ps.length->BindsTo s fd ⟨us,ks.zip ws⟩ (ps.zip (g us ws))
 rel: ∀ {vs:List V} {us:List Value} {zs:List V} {ws:List Value},zaV vs us->zaV zs ws->zaV (gV vs zs) (g us ws)
variable {g:List Value->List Value->List Value} {gV:List V->List V->List V}
end
structure zas (N P:List Str) (sc:Scope):Prop where
 kind:sc.kind= .function
 co:sc.isCoroutine=false
 gen:sc.isGenerator=false
 nd:N.Nodup
 pre:N.take P.length=P
 par: ∀ x∈P,sc.names.lookup x=some .local\/sc.names.lookup x=some .cell
 nofree: ∀ y∈sc.names,y.2≠ .free
theorem zg6 {kindOf:Str->Option NameKind} {x:Str}: ∀ {binds:List (Str×Value)} {m:Str->Option Value},(∀ v,(x,v)∉binds)->bindL kindOf binds m x=m x
 | [],_,_=>rfl
 | (n,v)::r,m,h=>by
  unfold bindL
  rw [zg6 fun w hw=>h w (qaj _ hw)]
  split
  ·have:x≠n:=by rintro rfl;exact h v qan
   simp [this]
  ·rfl
theorem zgL {kindOf:Str->Option NameKind} {x:Str}: ∀ {binds:List (Str×Value)} {m:Str->Option Value},(∀ v,(x,v)∉binds)->bindC kindOf binds m x=m x
 | [],_,_=>rfl
 | (n,v)::r,m,h=>by
  unfold bindC
  rw [zgL fun w hw=>h w (qaj _ hw)]
  split
  ·rfl
  ·have:x≠n:=by rintro rfl;exact h v qan
   simp [this]
theorem zg2 {kindOf:Str->Option NameKind} {x:Str} {v:Value}: ∀ {P:List Str} {vs:List Value} {i:Nat} {m:Str->Option Value},P.Nodup->P[i]? = some x->vs[i]? = some v->kindOf x=some .local->
  bindL kindOf (P.zip vs) m x=some v
 | [],_,_,_,_,h,_,_=>by simp at h
 | _::_,[],_,_,_,_,h,_=>by simp at h
 | p::P,w::vs,0,m,nd,h1,h2,hk=>by
  simp at h1 h2;subst h1;subst h2
  show bindL kindOf ((p,w)::P.zip vs) m p=_
  unfold bindL
  rw [zg6 fun v hv=>(List.nodup_cons.mp nd).1 (List.of_mem_zip hv).1,if_pos hk]
  simp
 | p::P,w::vs,i+1,m,nd,h1,h2,hk=>by
  show bindL kindOf ((p,w)::P.zip vs) m x=_
  unfold bindL
  exact zg2 (i:=i) (List.nodup_cons.mp nd).2 (by simpa using h1) (by simpa using h2) hk
theorem zgN {kindOf:Str->Option NameKind} {x:Str} {v:Value}: ∀ {P:List Str} {vs:List Value} {i:Nat} {m:Str->Option Value},P.Nodup->P[i]? = some x->vs[i]? = some v->kindOf x≠some .local->
  bindC kindOf (P.zip vs) m x=some v
 | [],_,_,_,_,h,_,_=>by simp at h
 | _::_,[],_,_,_,_,h,_=>by simp at h
 | p::P,w::vs,0,m,nd,h1,h2,hk=>by
  simp at h1 h2;subst h1;subst h2
  show bindC kindOf ((p,w)::P.zip vs) m p=_
  unfold bindC
  rw [zgL fun v hv=>(List.nodup_cons.mp nd).1 (List.of_mem_zip hv).1,if_neg hk]
  simp
 | p::P,w::vs,i+1,m,nd,h1,h2,hk=>by
  show bindC kindOf ((p,w)::P.zip vs) m x=_
  unfold bindC
  exact zgN (i:=i) (List.nodup_cons.mp nd).2 (by simpa using h1) (by simpa using h2) hk
noncomputable def zdR (N:List Str) (vs:List V):St:=vs.map some++List.replicate (N.length - vs.length) none
noncomputable def zhC (CX:CXT) (P:Program) (w:World) (K:W.Frag) (mg:Str->Option Value) (base:Heap) (N:List Str) (qual:Str) (scope:Scope) (f:Addr) (cd:Value) (A:Around) (outer:List Env) (s:Shared) (H:Hp) (E:XK):Cx where
 prog:=P
 w:=w
 K:=K
 mg:=mg
 base:=base
 A:=A.deeper (envOfC qual scope s.heap.objs.size f cd)
 N:=N
 s₀:=s
 H₀:=H
 env:=envOfC qual scope s.heap.objs.size f cd
 outer:=outer
 stack:=envOfC qual scope s.heap.objs.size f cd::outer
 ex:=[]
 calm:=true
 fn:=fun _=>true
 pn:=[]
 xe:=fun e s'=>wpAny (model P w) (A.deeper (envOfC qual scope s.heap.objs.size f cd)) (leaving (envOfC qual scope s.heap.objs.size f cd) e) (fun _ s''=>CX outer H s E e s'') (fun e' s''=>CX outer H s E e' s'') s'
theorem zi1 {sc:Scope} {n:Nat} {x:Str} (h:sc.names.lookup x=some .cell): ∃ c,(cellsFrom n sc.names []).lookup x=some c:=by
 have q:=W.cellsFrom_some sc.names n [] (.inl h)
 exact Option.isSome_iff_exists.mp q
theorem zhr {CX:CXT} {P:Program} {w:World} {K:W.Frag} {mg:Str->Option Value} {base:Heap} {N ps:List Str} {qual:Str} {scope:Scope} {f:Addr} {cd:Value} {A:Around} {outer:List Env} {s s1:Shared} {H:Hp} {E:XK} {us:List Value} {vs:List V}
  (S:zas N ps scope) {cm:Bool} (hd:cm=true->A.handled=none) (e0:zn4 P w K mg base A outer s H) (hl:vs.length=ps.length) (r:zaV vs us)
  (x:InCallC s s.heap.objs.size (bindL (envOfC qual scope s.heap.objs.size f cd).kindOf (ps.zip us) fun _=>none) (cellsFrom (s.heap.objs.size+1) scope.names []) (bindC (envOfC qual scope s.heap.objs.size f cd).kindOf (ps.zip us) fun _=>none) s1):
  Inv {zhC CX P w K mg base N qual scope f cd A outer s H E with calm:=cm} [] (zdR N vs) H s1:=by
 have hpl:ps.length<=N.length:=by have:=congrArg List.length S.pre;rw [List.length_take] at this;omega
 obtain ⟨h1,tk,rfl,hk⟩:=x.done
 have noA: ∀ b:Addr,b∉(zhC CX P w K mg base N qual scope f cd A outer s H E).ex:=fun b z=>absurd (show b∈([]:List Addr) from z) (by simp)
 refine ⟨⟨e0.mod,S.kind,rfl,rfl,qaG _,fun y z c h1 h2=> ?_,fun y hy=> ?_,fun y c _ h=> ?_,hd,e0.hand,Around.frames_deeper e0.frames,.inr ⟨rfl,rfl⟩,fun b z=>absurd z (noA b),e0.bs,e0.bsz,fun b _ _=>noA b,fun b z=>absurd z (noA b),e0.funs,e0.frf⟩,
   rfl,e0.bare,Un.kept hk,⟨_,x.toInCall.ns,fun i y v h1 h2 h3=> ?_⟩,fun y c h=>⟨_,x.cell y c h⟩,e0.hok.fresh (qaG _),fun y c h=> ?_,fun p hp=>absurd (show p∈([]:List (Addr×Obj)) from hp) (by simp),e0.hok.kept hk,?_⟩
 ·exact name_of_addr x.apart (PySem.mem_of_lookup h1) (PySem.mem_of_lookup h2)
 ·have hy:scope.names.lookup y=some .cell\/scope.names.lookup y=some .free:=hy
  rcases hy with hy | hy
  ·exact zi1 hy
  ·exact absurd rfl (S.nofree _ (PySem.mem_of_lookup hy))
 ·exact Nat.le_of_lt (x.above y c (PySem.mem_of_lookup h))
 ·have hi:i<vs.length:=by
   unfold zdR at h2
   by_cases hi:i<vs.length
   ·exact hi
   ·rw [qaa (by simpa using hi)] at h2
    rw [List.getElem?_replicate] at h2
    split at h2<;>cases h2
  have ha:vs[i]? = some v:=by
   unfold zdR at h2
   rw [qac (by simpa using hi),List.getElem?_map] at h2
   cases e:vs[i]? with
   | none=>rw [e] at h2;cases h2
   | some a=>rw [e] at h2;cases h2;rfl
  obtain ⟨u,hu,rv⟩:=r.get ha
  have hp:ps[i]? = some y:=by
   rw [<- S.pre,List.getElem?_take_of_lt (by omega)];exact h1
  have ndP:ps.Nodup:=by rw [<- S.pre];exact S.nd.sublist (List.take_sublist _ _)
  refine ⟨u,rv,?_⟩
  rcases S.par y (List.mem_of_getElem? hp) with k | k
  ·exact .inl ⟨k,zg2 ndP hp hu k⟩
  ·obtain ⟨c,e⟩:=zi1 (n:=s.heap.objs.size+1) k
   refine .inr ⟨.inl k,c,e,?_⟩
   have q:=x.cell y c e
   rw [zgN ndP hp hu (by show scope.names.lookup y≠_;rw [k];decide)] at q
   exact q
 ·exact e0.hok.fresh (Nat.le_of_lt (x.above y c (PySem.mem_of_lookup h)))
 ·unfold zdR
  show _=N.length
  rw [qao,qax,List.length_replicate]
  omega
theorem zsk {CX:CXT} {P:Program} {w:World} {K:W.Frag} {mg:Str->Option Value} {base:Heap} {k:Nat} {f:Addr} {name qual:Str} {params:Arguments} {body:List Stmt} {scope:Scope} {dV kV doc pm cdv ct oc:Value} {an od:Option Addr}
  {osl:Array (Option Value)} {N ps:List Str} {sp:Sp} (lk:K.lookup f=some ⟨oc,od,.func (W.fnOf name qual params body scope dV kV doc pm an cdv ct),osl⟩) (hcd:W.codeIn K cdv qual=true) (S:zas N ps scope)
  (len: ∀ vs H Q E,sp vs H Q E->vs.length=ps.length)
  (hbody: ∀ (A:Around) (outer:List Env) (s:Shared) (H:Hp) (vs:List V) (Q:VK) (E:XK),zda k (A.deeper (envOfC qual scope s.heap.objs.size f cdv))->sp vs H Q E->
    ∃ t,PSs (zhC CX P w K mg base N qual scope f cdv A outer s H E) body t/\t {nx:=fun _ H'=>Q .non H',rt:=Q} (zdR N vs) H):
  zbG P w K mg base CX (k+1) f (W.fnOf name qual params body scope dV kV doc pm an cdv ct) ps sp:=by
 refine ⟨len,fun A outer s H args us vs Q E hr e0 hb r hsp=> ?_⟩
 have hl:=len _ _ _ _ hsp
 have KX:K.In s.heap:=e0.mod.kin.keeps fun b o e=>(e0.bs b o e).1
 have lim:s.heap.NoLimit:=e0.mod.nolimit.keeps fun b o e=>(e0.bs b o e).1
 have hkind: ∀ y∈ps.zip us,scope.names.lookup y.1=some .local\/(scope.names.lookup y.1=some .cell/\((cellsFrom (s.heap.objs.size+1) scope.names []).lookup y.1).isSome=true):=fun ⟨n,v⟩ hy=>by
  rcases S.par n (List.of_mem_zip hy).1 with q | q
  ·exact .inl q
  ·exact .inr ⟨q,W.cellsFrom_some _ _ _ (.inl q)⟩
 refine codeAny_call_function hr.depth (KX _ _ lk) rfl S.co S.gen rfl (W.codeRec_of KX hcd) (hb _ _ _ _ ?_)
 refine wpAny_newFunctionEnv_cells S.kind hkind fun env he s1 x=> ?_
 subst he
 refine ⟨lim.keeps x.toInCall.keep,codeAny_func ?_⟩
 obtain ⟨t,ht,hq⟩:=hbody A outer s H vs Q E (hr.deeper _) hsp
 have I:Inv (zhC CX P w K mg base N qual scope f cdv A outer s H E) [] (zdR N vs) H s1:=zhr (cm:=true) S (fun _=>hr.hd) e0 hl r x
 refine qaK (ht [] s1 (zdR N vs) H _ I hq) (fun fl s' hs=> ?_) fun e s' hs=>hs
 have fin: ∀ {σ':St} {H':Hp} {v:V} {u:Value},Inv (zhC CX P w K mg base N qual scope f cdv A outer s H E) [] σ' H' s'->zbj v u->Q v H'->CE outer P w H s Q u s':=
  fun {σ' H' v u} J rv q=>⟨v,H',J.os,J.bare,J.base,J.hok,rv,q⟩
 cases fl with
 | ret u=>
  obtain ⟨v,σ',H',J,rv,q⟩:=hs
  exact fin J rv q
 | next=>
  obtain ⟨σ',H',J,q⟩:=hs
  exact fin (v:=V.non) (u:=Value.none) J rfl q
 | brk=>
  obtain ⟨_,_,_,q⟩:=hs
  exact False.elim q
 | cont=>
  obtain ⟨_,_,_,q⟩:=hs
  exact False.elim q
section
variable {X:Cx} {x:Str} {p pos:Pos} {e:Expr} {es:List Expr} {t:TA} {id T:String} {r:List V->Hp->VK->Prop}
noncomputable def tCB (r:List V->Hp->VK->Prop) (t:TA):TE:=fun σ H Q=>t σ H fun vs H1=>r vs H1 Q
theorem zep (hc:zay X (.builtin id) r) (hg:Gl X x) (hm:X.mg x=none) (hv:bootBuiltins x=some (.builtin id)) (ha:PA X (e::es) t) (hn:x≠"__name__":=by decide) (hdb:(x==("__debug__":Str))=false:=by decide)
  (he:starEach (e::es) X.env=(false,eval e X.env)::starEach es X.env:=by rfl) (hpl:(backTo pos (starEach es X.env)).any (·.1)=false:=by rfl):PE X (.Call (.Name x p) (e::es) [] pos) (tCB r t):=by
 intro pins s σ H Q I h
 refine wpAny_Call_Name_kw (zgE I hg hm hv ?_ hn hdb)
 exact PyProof.Rows.callWith_builtin1 (thn (ha pos pins s σ H _ I h) fun us s1 ⟨vs,H1,I1,r1,q1⟩=>hc pins s1 σ H1 vs us Q I1 r1 q1) he hpl
theorem zdz (hc:zay X (.type T) r) (hg:Gl X x) (hm:X.mg x=none) (hv:bootBuiltins x=some (.type T)) (ha:PA X (e::es) t) (hn:x≠"__name__":=by decide) (hdb:(x==("__debug__":Str))=false:=by decide)
  (he:starEach (e::es) X.env=(false,eval e X.env)::starEach es X.env:=by rfl) (hpl:(backTo pos (starEach es X.env)).any (·.1)=false:=by rfl):PE X (.Call (.Name x p) (e::es) [] pos) (tCB r t):=by
 intro pins s σ H Q I h
 refine wpAny_Call_Name_kw (zgE I hg hm hv ?_ hn hdb)
 exact PyProof.Rows.callWith_type1 (thn (ha pos pins s σ H _ I h) fun us s1 ⟨vs,H1,I1,r1,q1⟩=>hc pins s1 σ H1 vs us Q I1 r1 q1) he hpl
end
end L2
namespace HT
open PySem PyProof.Rows
noncomputable def zbp:List Int->List Int->Bool
 | [],[]=>false
 | [],_::_=>true
 | _::_,[]=>false
 | x::xs,y::ys=>if x=y then zbp xs ys else decide (x<y)
theorem zbg (x y:Int) (xs ys:List Int):zbp (x::xs) (y::ys)=if x=y then zbp xs ys else decide (x<y):=rfl
theorem zf3:zbp [] []=false:=rfl
theorem zfr (y:Int) (ys:List Int):zbp [] (y::ys)=true:=rfl
theorem zfp (x:Int) (xs:List Int):zbp (x::xs) []=false:=rfl
theorem zmI (A:Around) (s:Shared) (a:Int) (t:Tok) (c:Int) (u:Tok): ∃ e,SeqAt.EqAt A s (.int a t) (.int c u) e/\(e=true↔a=c):=
 ⟨(a==c),SeqAt.EqAt.int_int a t c u,by simp⟩
theorem zjo (A:Around) (s:Shared) (a:Int) (t:Tok) (c:Int) (u:Tok) (prog:Program) (w:World) (E:Value->Shared->Prop) (Q:Value->Shared->Prop) (h:Q (.bool (decide (a<c))) s):
  wpAny (model prog w) A (richCompare .Lt (.int a t) (.int c u)) Q E s:=
 (PyProof.Rows.lt_int h:wpAny (model prog w) A (compareOp .Lt (.int a t) (.int c u)) Q E s)
section
open PySem.SeqAt
open PySem.AutoSeq1 (wpAny_loadPart')
open PySem.MeetsSeq PySem.MeetsSeq2 PySem.MeetsSeq3
theorem zf1 (l b:Addr) (items items2:Array Value) (n n2:Nat) (dd dd2:Option Addr) (sl sl2:Array (Option Value)) (ns ms:List Int) (hi:IntsAre items.toList ns) (hj:IntsAre items2.toList ms):
  Meets (Builtin.«tuple.__lt__» ⟨[.ref l,.ref b],[]⟩)
   (fun _ R s=>s.heap.get? l=some {cls:= .type "tuple",dict:=dd,data:= .seq items n,slots:=sl}/\s.heap.get? b=some {cls:= .type "tuple",dict:=dd2,data:= .seq items2 n2,slots:=sl2}/\
     R (.ok (.ret (.bool (zbp ns ms)))) s):=
 .of_wp fun prog w A R s h=>by
  obtain ⟨hp,g,d,tk,os⟩:=s;obtain ⟨hl,hb,h⟩:=h
  have f2:=AutoSeq1.sub_tuple_tuple
  have z1:items.size=ns.length:=by rw [<- hi.length];simp
  have z2:items2.size=ms.length:=by rw [<- hj.length];simp
  wp_walk using wpAny_loadPart' hl,wpAny_loadPart' hb,wpAny_forIn_list _ (fun rest b s'=>b.1=none/\s'=⟨hp,g,d,tk,os⟩/\ ∃ (vs ws:List Value) (ns' ms':List Int),rest=vs.zip ws/\
    IntsAre vs ns'/\IntsAre ws ms'/\ns'.length+items2.size=ms'.length+items.size/\R (.ok (.ret (.bool (zbp ns' ms')))) ⟨hp,g,d,tk,os⟩) _
  case turn=>
   rintro ⟨y,x⟩ rest b s' ⟨hb',rfl,vs,ws,ns',ms',hz,hvi,hwi,hlen,hR⟩
   cases hvi with
   | nil=>rw [List.zip_nil_left] at hz;cases hz
   | cons a t hvi'=>
    cases hwi with
    | nil=>rw [List.zip_nil_right] at hz;cases hz
    | cons c u hwi'=>
     rw [List.zip_cons_cons] at hz
     injection hz with hyx hrest
     injection hyx with hy hx
     subst hy hx
     rw [zbg] at hR
     simp only [qav] at hlen
     obtain ⟨e,he,hiff⟩:=zmI A.in1 ⟨hp,g,d,tk,os⟩ a t c u
     refine qaH (he prog w _ _ ?_)
     cases e with
     | true=>
      rw [if_pos (hiff.mp rfl)] at hR
      wp_walk
      exact ⟨rfl,rfl,_,_,_,_,hrest,hvi',hwi',by omega,hR⟩
     | false=>
      rw [if_neg (fun q=>absurd (hiff.mpr q) Bool.false_ne_true)] at hR
      have hri:=zjo A.in1 ⟨hp,g,d,tk,os⟩ a t c u prog w
      wp_walk using hri
      exact ⟨_,rfl,by simpa using hR⟩
  case fin=>
   rintro ⟨b1,b2⟩ s' ⟨hb',rfl,vs,ws,ns',ms',hz,hvi,hwi,hlen,hR⟩
   simp only at hb'
   subst hb'
   have hv:zbp ns' ms'=decide (items.size<items2.size):=by
    cases hvi with
    | nil=>
     cases hwi with
     | nil=>
      simp only [List.length_nil] at hlen
      rw [zf3]
      exact (decide_eq_false (by omega)).symm
     | cons c u hw=>
      simp only [List.length_nil,qav] at hlen
      rw [zfr]
      exact (decide_eq_true (by omega)).symm
    | cons a t hv=>
     cases hwi with
     | nil=>
      simp only [List.length_nil,qav] at hlen
      rw [zfp]
      exact (decide_eq_false (by omega)).symm
     | cons c u hw=>
      rw [List.zip_cons_cons] at hz
      cases hz
   rw [hv] at hR
   wp_walk
   exact ⟨_,rfl,by simpa [Builtin.Tuple.tupleCompareSizes] using hR⟩
  case h=>
   exact ⟨rfl,rfl,items.toList,items2.toList,ns,ms,rfl,hi,hj,by omega,h⟩
end
section
variable {prog:Program} {w:World} {A:Around} {E:Value->Shared->Prop} {s:Shared}
theorem zfQ {l b:Addr} {items items2:Array Value} {ns ms:List Int} {Q:Value->Shared->Prop} (hl:IsTup s.heap l items) (hb:IsTup s.heap b items2) (hi:IntsAre items.toList ns) (hj:IntsAre items2.toList ms)
  (hu:A.units<cLine) (h:Q (.bool (zbp ns ms)) s):wpAny (model prog w) A (compareOp .Lt (.ref l) (.ref b)) Q E s:=by
 obtain ⟨⟨cls,dd,data,sl⟩,ho,hc,n,hd⟩:=id hl
 obtain ⟨⟨cls2,dd2,data2,sl2⟩,ho2,hc2,n2,hd2⟩:=id hb
 simp only at hc hd hc2 hd2
 subst hc hd hc2 hd2
 exact richCompare_meets_room (op:= .Lt) ⟨_,ho,rfl⟩ ⟨_,ho2,rfl⟩ PySem.F.slot_tuple_lt PySem.F.entry_tuple_lt (PySem.F.args_tuple_lt_2 _ _) (zf1 l b items items2 n n2 dd dd2 sl sl2 ns ms hi hj)
  ⟨ho,ho2,show Value.bool (zbp ns ms)≠Value.notImplemented/\Q (.bool (zbp ns ms)) s from ⟨(fun x=>nomatch x),h⟩⟩ hu
theorem zo4 {t b:Addr} {vs ws:List Value} {Q:Value->Shared->Prop} (ht:IsTup s.heap t vs.toArray) (hb:IsTup s.heap b ws.toArray) (hv:vs≠[])
  (h1:ws=[]->Q (.ref t) s) (h2:ws≠[]->Q (.ref s.heap.objs.size) {s with heap:=s.heap.push {cls:= .type "tuple",data:= .seq (vs++ws).toArray}})
  (hsz:vs.length+ws.length<=sizeLine):wpAny (model prog w) A (binaryOp .Add (.ref t) (.ref b)) Q E s:=by
 obtain ⟨⟨cls,dd,data,sl⟩,ho,hc,n,hd⟩:=id ht
 obtain ⟨⟨cls2,dd2,data2,sl2⟩,ho2,hc2,n2,hd2⟩:=id hb
 simp only at hc hd hc2 hd2
 subst hc hd hc2 hd2
 have e:vs.toArray++ws.toArray=(vs++ws).toArray:=by simp
 by_cases hw:ws=[]
 ·exact concat_meets ⟨_,ho,rfl⟩ ⟨_,ho2,rfl⟩ noFill_tuple_add seq_tuple_add PySem.F.slot_tuple_add PySem.F.entry_tuple_add (PySem.F.args_tuple_add_2 _ _)
   (tuple_addW1 t b vs.toArray ws.toArray n n2 dd dd2 sl sl2 (by simpa using hv) (by simp [hw])) ⟨ho,ho2,h1 hw⟩
 ·refine concat_meets ⟨_,ho,rfl⟩ ⟨_,ho2,rfl⟩ noFill_tuple_add seq_tuple_add PySem.F.slot_tuple_add PySem.F.entry_tuple_add (PySem.F.args_tuple_add_2 _ _)
   (tuple_addW2 t b vs.toArray ws.toArray n n2 dd dd2 sl sl2 (by simpa using hv) (by simpa using hw) (by rw [qar,qar];exact hsz)) ⟨ho,ho2,?_⟩
  rw [e]
  exact h2 hw
noncomputable def sIx (n d:Nat):Option Int->Nat
 | none=>d
 | some v=>if v<0 then (v+(n:Int)).toNat else min v.toNat n
theorem zmB (n d k:Nat):sIx n d (some (k:Int))=min k n:=by
 show (if (k:Int)<0 then ((k:Int)+(n:Int)).toNat else min (k:Int).toNat n)=min k n
 rw [if_neg (by omega),qas]
theorem zs7 (n d:Nat) (hd:d<=n) (o:Option Int):sIx n d o<=n:=by
 cases o with
 | none=>exact hd
 | some v=>
  show (if v<0 then (v+(n:Int)).toNat else min v.toNat n)<=n
  by_cases hv:v<0
  ·rw [if_pos hv];omega
  ·rw [if_neg hv];exact Nat.min_le_right _ _
theorem zkK (v:Int) (n d:Nat):(if v<0 then max (v+(n:Int)) 0 else min v (n:Int))=((sIx n d (some v):Nat):Int):=by
 show (if v<0 then max (v+(n:Int)) 0 else min v (n:Int))=(((if v<0 then (v+(n:Int)).toNat else min v.toNat n):Nat):Int)
 by_cases hv:v<0
 ·simp only [if_pos hv];omega
 ·simp only [if_neg hv];omega
theorem zjN (lo hi:Option Int) (n:Nat):Builtin.Slice.sliceAdjust lo hi 1 (n:Int)=(((sIx n 0 lo:Nat):Int),((sIx n n hi:Nat):Int)):=by
 have h1: ¬((1:Int)<0):=by omega
 unfold Builtin.Slice.sliceAdjust
 simp only [h1,if_false]
 refine Prod.ext ?_ ?_
 ·cases lo with
  | none=>rfl
  | some v=>exact zkK v n 0
 ·cases hi with
  | none=>rfl
  | some v=>exact zkK v n n
theorem zjU (i j:Nat):Builtin.Slice.slicePlaces (i:Int) (j:Int) 1=j - i:=by
 unfold Builtin.Slice.slicePlaces
 have h1:(1:Int)>0:=by omega
 simp only [h1,if_true,Int.ediv_one]
 split<;>omega
theorem zfx {v:Value} {o:Option Int} {Q:Option Int->Shared->Prop} (p:IsPart v o) (h:Q o s):wpAny (model prog w) A (Builtin.Slice.slicePartIndex v) Q E s:=by
 cases p with
 | none=>exact slicePart_none h
 | int i t=>exact slicePart_int h
theorem zcC {sl:Addr} {vl vu:Value} {lo hi:Option Int} {n:Nat} {Q:Int×Int×Nat->Shared->Prop} (hs:s.heap.IsSliceOf sl vl vu .none) (pl:IsPart vl lo) (pu:IsPart vu hi)
  (h:Q (((sIx n 0 lo:Nat):Int),1,sIx n n hi - sIx n 0 lo) s):wpAny (model prog w) A (Builtin.Slice.sliceApplied (.ref sl) (pure (n:Int))) Q E s:=by
 obtain ⟨os,hos,hcs,hds⟩:=id hs
 unfold Builtin.Slice.sliceApplied Builtin.Slice.sliceFields
 refine qaH (qaH (wpAny_field hos hds (x:=vl) rfl (qaH (wpAny_field hos hds (x:=vu) rfl (qaH (wpAny_field hos hds (x:= .none) rfl (qaI ?_)))))))
 refine qaH (slicePart_none ?_)
 show wpAny _ _ (if ((1:Int)==0)=true then _ else _) _ _ s
 rw [if_neg (by decide)]
 refine qaH (zfx pl (qaH (zfx pu (qaH (qaI ?_)))))
 show wpAny _ _ (match Builtin.Slice.sliceAdjust lo hi 1 (n:Int) with | (lo,hi)=>pure (lo,(1:Int),Builtin.Slice.slicePlaces lo hi 1)) _ _ s
 rw [zjN lo hi n]
 show wpAny _ _ (pure (((sIx n 0 lo:Nat):Int),(1:Int),Builtin.Slice.slicePlaces ((sIx n 0 lo:Nat):Int) ((sIx n n hi:Nat):Int) 1)) _ _ s
 rw [zjU]
 exact qaI h
theorem znY (xs:Array Value) (i k:Nat):((List.range k).filterMap fun (m:Nat)=>xs[((i:Int)+(m:Int)*1).toNat]?).toArray=((xs.toList.drop i).take k).toArray:=by
 have e:(fun (m:Nat)=>xs[((i:Int)+(m:Int)*1).toNat]?)=fun m=>xs[i+m]? := by
  funext m
  have:((i:Int)+(m:Int)*1).toNat=i+m:=by omega
  rw [this]
 rw [e]
 have:=pick_run xs i k
 rw [List.filterMap_map] at this
 have e2:((fun x=>xs[x]?)∘fun x=>i+x)=fun m=>xs[i+m]? := rfl
 rw [e2] at this
 rw [this]
theorem zdV {t sl:Addr} {items:Array Value} {vl vu:Value} {lo hi:Option Int} {Q:Value->Shared->Prop} (ht:IsTup s.heap t items) (hs:s.heap.IsSliceOf sl vl vu .none) (pl:IsPart vl lo) (pu:IsPart vu hi)
  (hw: ¬(sIx items.size 0 lo=0/\sIx items.size items.size hi=items.size))
  (h:Q (.ref s.heap.objs.size) {s with heap:=s.heap.push {cls:= .type "tuple",data:= .seq ((items.toList.drop (sIx items.size 0 lo)).take (sIx items.size items.size hi - sIx items.size 0 lo)).toArray}})
  (hsz:items.size<=sizeLine):wpAny (model prog w) A (getItem (.ref t) (.ref sl)) Q E s:=by
 have htake:sizeOk (.seq ((items.toList.drop (sIx items.size 0 lo)).take (sIx items.size items.size hi - sIx items.size 0 lo)).toArray):=by
  show ((items.toList.drop (sIx items.size 0 lo)).take (sIx items.size items.size hi - sIx items.size 0 lo)).toArray.size<=sizeLine
  rw [qar,List.length_take,List.length_drop,qam]
  omega
 have hj:sIx items.size items.size hi<=items.size:=zs7 _ _ (qaG _) hi
 obtain ⟨os,hos,hcs,hds⟩:=id hs
 have hTs:s.TypeIs (.ref sl) "slice":=⟨os,hos,hcs⟩
 unfold getItem
 try with_reducible refine qaB ?_
 first | refine qaH (qaI ?_) | skip
 refine qaH (wpAny_sequenceKey ht.typeIs (by decide) ?_)
 refine qaH (wpAny_callSpecial?_slot (name:=Str.ofString "__getitem__") ht.typeIs PyProof.Rows.slot_tuple_getitem
   (wpAny_call_entry PyProof.Rows.slot_tuple_getitem ht.typeIs entry_tuple_getitem ?_ (args_tuple_getitem _ _)))
 show wpAny _ _ (Builtin.Tuple.tupleItemsOf (.ref t)>>=_) _ _ s
 refine qaH (tupleItemsOf_ ht ?_)
 refine qaH (wpAny_typeOf hTs ?_)
 rw [if_pos (by decide)]
 refine qaH (zcC hs pl pu ?_)
 have hno: ¬((((sIx items.size 0 lo:Nat):Int)==0 && (1:Int)==1 && (sIx items.size items.size hi - sIx items.size 0 lo)==items.size)=true):=by
  intro q
  rw [Bool.and_eq_true,Bool.and_eq_true] at q
  have q1:((sIx items.size 0 lo:Nat):Int)=0:=eq_of_beq q.1.1
  have q2:sIx items.size items.size hi - sIx items.size 0 lo=items.size:=eq_of_beq q.2
  exact hw ⟨by omega,by omega⟩
 show wpAny _ _ (if (((sIx items.size 0 lo:Nat):Int)==0 && (1:Int)==1 && (sIx items.size items.size hi - sIx items.size 0 lo)==items.size)=true then _ else _) _ _ s
 rw [if_neg hno,znY]
 first
  | exact qaH (m:=Builtin.Tuple.tupleExact _) (qat (qaI ⟨_,rfl,qaI h⟩) htake)
  | exact qaH (m:=Builtin.Tuple.tupleExact _) (qat (qaH (qaI (qaI ⟨_,rfl,qaI h⟩))) htake)
  | exact qaH (qaH (m:=Builtin.Tuple.tupleExact _) (qat (qaI (qaI ⟨_,rfl,qaI h⟩)) htake))
  | exact qaH (qaH (m:=Builtin.Tuple.tupleExact _) (qat (qaI ⟨_,rfl,qaI h⟩) htake))
end
end HT
namespace L2
open PySem PySem.Spec PyProof.Rows
noncomputable abbrev TO:=St->Hp->(Option Int->Hp->Prop)->Prop
noncomputable def PO (X:Cx) (e:Option Expr) (t:TO):Prop:=
 ∀ (pins:List (Addr×Obj)) (s:Shared) (σ:St) (H:Hp) (Q:Option Int->Hp->Prop),Inv X pins σ H s->t σ H Q->
  wpAny (model X.prog X.w) X.A (evalPart e X.env) (fun u s'=> ∃ o H',Inv X pins σ H' s'/\IsPart u o/\Q o H') X.xe s
noncomputable def zqk:TO:=fun _ H Q=>Q none H
noncomputable def ztO (t:TE):TO:=fun σ H Q=>t σ H fun x H1=> ∃ i,x= .int i/\Q (some i) H1
theorem zbP {ns:List Int}: ∀ {us:List Value},zaV (ns.map V.int) us->IntsAre us ns:=by
 induction ns with
 | nil=>intro us r;rw [List.map_nil] at r;cases r;exact .nil
 | cons n ns ih=>
  intro us r
  rw [qaz] at r
  cases r with
  | cons r1 r2=>
   obtain ⟨t,e⟩:=r1
   subst e
   exact .cons n t (ih r2)
section
variable {X:Cx} {e:Expr} {te:TE} {lo hi:Option Expr} {tl th:TO} {pos p2:Pos}
theorem zqA:PO X none zqk:=by
 intro pins s σ H Q I h
 rw [evalPart_none]
 exact qaI ⟨none,H,I,.none,h⟩
theorem zpY (h:PE X e te):PO X (some e) (ztO te):=by
 intro pins s σ H Q I hw
 rw [evalPart_some]
 refine thn (h pins s σ H _ I hw) fun u s1 ⟨x,H1,I1,r1,q1⟩=> ?_
 obtain ⟨i,rfl,q⟩:=q1
 obtain ⟨t,rfl⟩:=r1
 exact ⟨some i,H1,I1,.int i t,q⟩
noncomputable def SlR (X:Cx) (r:V->Option Int->Option Int->Hp->VK->Prop):Prop:=
 ∀ (pins:List (Addr×Obj)) (s:Shared) (σ:St) (H:Hp) (x:V) (v vl vu:Value) (lo hi:Option Int) (sl:Addr) (Q:VK),Inv X pins σ H s->zbj x v->s.heap.IsSliceOf sl vl vu .none->IsPart vl lo->IsPart vu hi->r x lo hi H Q->
  ∃ T id,typeLookup (.type T) "__getitem__"=pure (some (.builtin id))/\s.TypeIs v T/\wpAny (model X.prog X.w) X.A (getItem v (.ref sl)) (EP X pins σ Q) X.xe s
theorem SlR.or {r r':V->Option Int->Option Int->Hp->VK->Prop} (h:SlR X r) (h':SlR X r'):SlR X (fun x lo hi H Q=>r x lo hi H Q\/r' x lo hi H Q):=by
 intro pins s σ H x v vl vu lo hi sl Q I rx hs pl pu q
 rcases q with q | q
 ·exact h pins s σ H x v vl vu lo hi sl Q I rx hs pl pu q
 ·exact h' pins s σ H x v vl vu lo hi sl Q I rx hs pl pu q
noncomputable def tSl (r:V->Option Int->Option Int->Hp->VK->Prop) (te:TE) (tl th:TO):TE:=fun σ H Q=>te σ H fun x H1=>tl σ H1 fun l H2=>th σ H2 fun u H3=>r x l u H3 Q
theorem zn9 {r:V->Option Int->Option Int->Hp->VK->Prop} (hr:SlR X r) (he:PE X e te) (hl:PO X lo tl) (hu:PO X hi th):PE X (.Subscript e (.Slice lo hi none p2) pos) (tSl r te tl th):=by
 intro pins s σ H Q I h
 refine Subscript_ (thn (he pins s σ H _ I h) fun v s1 ⟨x,H1,I1,r1,q1⟩=> ?_)
 refine wpAny_Slice (thn (hl pins s1 σ H1 _ I1 q1) fun vl s2 ⟨l,H2,I2,pl,q2⟩=>thn (hu pins s2 σ H2 _ I2 q2) fun vu s3 ⟨u,H3,I3,pu,q3⟩=> ?_)
 rw [evalPart_none]
 refine qaI ?_
 have I4:Inv X pins σ H3 {s3 with heap:=s3.heap.push {cls:= .type "slice",data:= .fields #[vl,vu,.none]}}:=I3.kept (t':=s3.toks) fun b ob q=>qad _ q
 obtain ⟨T,id,hT,ht,hg⟩:=hr pins {s3 with heap:=s3.heap.push {cls:= .type "slice",data:= .fields #[vl,vu,.none]}} σ H3 x v vl vu l u s3.heap.objs.size Q I4 r1 (Heap.IsSliceOf.new ..) pl pu q3
 show wpAny (model X.prog X.w) X.A (subscriptTail e (.Slice lo hi none p2) v (.ref s3.heap.objs.size)) (EP X pins σ Q) X.xe {s3 with heap:=s3.heap.push {cls:= .type "slice",data:= .fields #[vl,vu,.none]}}
 exact tail_any (ops:=[.ref s3.heap.objs.size,v]) ht hT hg (by with_unfolding_all rfl)
noncomputable def zoy (xs:List V) (lo hi:Option Int):List V:=(xs.drop (HT.sIx xs.length 0 lo)).take (HT.sIx xs.length xs.length hi - HT.sIx xs.length 0 lo)
theorem zfd (xs:List V) (lo hi:Option Int):(zoy xs lo hi).length<=xs.length:=by
 unfold zoy
 rw [List.length_take,List.length_drop]
 omega
noncomputable def zvT (K:W.Frag):V->Option Int->Option Int->Hp->VK->Prop:=fun x lo hi H Q=> ∃ a xs,x= .ref a/\SqT K H a xs/\
 ¬ (HT.sIx xs.length 0 lo=0/\HT.sIx xs.length xs.length hi=xs.length)/\ ∀ p,H p=none->Q (.ref p) (upd H p (.tup (zoy xs lo hi)))
theorem zrk:SlR X (zvT X.K):=by
 intro pins s σ H x v vl vu lo hi sl Q I rx hs pl pu h
 obtain ⟨a,xs,rfl,hx,hw,q⟩:=h
 cases rx
 obtain ⟨its,r,ht,hz⟩:=I.tuple hx
 have hlen:its.toArray.size=xs.length:=by rw [qar];exact r.length.symm
 refine ⟨"tuple",_,PyProof.Rows.slot_tuple_getitem.lookup,ht.typeIs,?_⟩
 refine HT.zdV ht hs pl pu (by rw [hlen];exact hw) ?_ (by rw [hlen];exact hz)
 rw [hlen]
 refine ⟨.ref s.heap.objs.size,_,I.laid (t':=s.toks) (o:= .tup (zoy xs lo hi)) (fun b ob q=>qad _ q) (qaG _) ?_,rfl,q _ (I.hok.fresh (qaG _))⟩
 exact ⟨qaE (zfd xs lo hi) hz,_,(r.drop (HT.sIx xs.length 0 lo)).take (HT.sIx xs.length xs.length hi - HT.sIx xs.length 0 lo),IsTup.new _ _⟩
noncomputable def zus (K:W.Frag):R2:=fun x y H Q=> ∃ a b xs ys,x= .ref a/\y= .ref b/\SqT K H a xs/\SqT K H b ys/\xs≠[]/\xs.length+ys.length<=sizeLine/\
 (ys=[]->Q (.ref a) H)/\(ys≠[]-> ∀ p,H p=none->Q (.ref p) (upd H p (.tup (xs++ys))))
theorem zaV.nil_iff {xs:List V} {us:List Value} (r:zaV xs us):us=[]↔xs=[]:=by
 cases r with
 | nil=>simp
 | cons _ _=>simp
theorem zo6:OpR X (binaryOp .Add) (zus X.K):=by
 intro pins s σ H x y v u Q I rx ry h
 obtain ⟨a,b,xs,ys,rfl,rfl,ha,hb,hx,hz,q1,q2⟩:=h
 cases rx
 cases ry
 obtain ⟨its,r1,p1,_⟩:=I.tuple ha
 obtain ⟨its2,r2,p2,_⟩:=I.tuple hb
 refine HT.zo4 p1 p2 (fun z=>hx (r1.nil_iff.mp z)) (fun z=>⟨.ref a,H,I,rfl,q1 (r2.nil_iff.mp z)⟩) (fun z=> ?_) (by rw [<- r1.length, <-r2.length];exact hz)
 refine ⟨.ref s.heap.objs.size,_,I.laid (t':=s.toks) (o:= .tup (xs++ys)) (fun b ob q=>qad _ q) (qaG _) ?_,rfl,q2 (fun w=>z (r2.nil_iff.mpr w)) _ (I.hok.fresh (qaG _))⟩
 exact ⟨by rw [qao];exact hz,_,r1.append r2,IsTup.new _ _⟩
end
noncomputable def ixN (n:Nat) (i:Int):Option Nat:=if 0<=i then (if i<n then some i.toNat else none) else if -(n:Int)<=i then some (i+n).toNat else none
noncomputable def atI {α:Type} (xs:List α) (i:Int):Option α:=(ixN xs.length i).bind fun j=>xs[j]?
theorem zmd {n:Nat} {i:Int} {j:Nat} (h:ixN n i=some j):seqIndex? i n=some j/\j<n/\ -(n:Int)<=i/\i<n:=by
 unfold ixN at h
 by_cases h0:0<=i
 ·rw [if_pos h0] at h
  by_cases h1:i<n
  ·rw [if_pos h1] at h
   have e:i.toNat=j:=Option.some.inj h
   exact ⟨by rw [seqIndex_of h0 h1,e],by omega,by omega,h1⟩
  ·rw [if_neg h1] at h;cases h
 ·rw [if_neg h0] at h
  by_cases h1: -(n:Int)<=i
  ·rw [if_pos h1] at h
   have e:(i+n).toNat=j:=Option.some.inj h
   exact ⟨by rw [seqIndex_neg (by omega) h1,e],by omega,h1,by omega⟩
  ·rw [if_neg h1] at h;cases h
theorem zlz {α:Type} {xs:List α} {i:Int} {v:α} (h:atI xs i=some v): ∃ j,seqIndex? i xs.length=some j/\xs[j]? = some v/\j<xs.length/\ -(xs.length:Int)<=i/\i<xs.length:=by
 unfold atI at h
 cases e:ixN xs.length i with
 | none=>rw [e] at h;cases h
 | some j=>
  rw [e] at h
  obtain ⟨h1,h2,h3,h4⟩:=zmd e
  exact ⟨j,h1,h,h2,h3,h4⟩
theorem zgr {α:Type} {xs:List α} {j:Nat} {v:α} (h:xs[j]? = some v):atI xs (j:Int)=some v:=by
 have hj:j<xs.length:=(qab.mp h).1
 have e:ixN xs.length (j:Int)=some j:=by
  unfold ixN
  rw [if_pos (by omega),if_pos (by omega)];simp
 unfold atI;rw [e];exact h
noncomputable def zhY (b:Expr):Prop:= ∀ o i,subscripted b false o i=operate [o,i] (getItem o i)
noncomputable def IxR (X:Cx) (r:R2):Prop:=
 ∀ (value slice:Expr) (pins:List (Addr×Obj)) (s:Shared) (σ:St) (H:Hp) (x y:V) (v u:Value) (Q:VK),Inv X pins σ H s->zbj x v->zbj y u->r x y H Q->
  subscripted slice false v u=operate [v,u] (getItem v u)->wpAny (model X.prog X.w) X.A (subscriptTail value slice v u) (EP X pins σ Q) X.xe s
noncomputable def MtR (X:Cx) (id:String) (r:V->List V->Hp->VK->Prop):Prop:=
 ∀ (pins:List (Addr×Obj)) (s:Shared) (σ:St) (H:Hp) (x:V) (xs:List V) (v:Value) (us:List Value) (Q:VK),Inv X pins σ H s->zbj x v->zaV xs us->r x xs H Q->
  wpAny (model X.prog X.w) X.A (call (.builtin id) (v::us)) (EP X pins σ Q) X.xe s
section
variable {X:Cx} {a b:Expr} {ta tb:TE} {pos:Pos}
theorem IxR.or {r r':R2} (h:IxR X r) (h':IxR X r'):IxR X (fun x y H Q=>r x y H Q\/r' x y H Q):=by
 intro value slice pins s σ H x y v u Q I rx ry q hs
 rcases q with q | q
 ·exact h value slice pins s σ H x y v u Q I rx ry q hs
 ·exact h' value slice pins s σ H x y v u Q I rx ry q hs
theorem MtR.or {id:String} {r r':V->List V->Hp->VK->Prop} (h:MtR X id r) (h':MtR X id r'):MtR X id (fun x xs H Q=>r x xs H Q\/r' x xs H Q):=by
 intro pins s σ H x xs v us Q I rx rs q
 rcases q with q | q
 ·exact h pins s σ H x xs v us Q I rx rs q
 ·exact h' pins s σ H x xs v us Q I rx rs q
theorem ztK {r:R2} (hr:IxR X r) (ha:PE X a ta) (hb:PE X b tb) (hs:zhY b):PE X (.Subscript a b pos) (tOp r ta tb):=by
 intro pins s σ H Q I h
 exact Subscript_ (zuy ha hb I h fun v u s2 x y H2 I2 rx ry q=>hr a b pins s2 σ H2 x y v u Q I2 rx ry q (hs _ _))
noncomputable def zvA (K:W.Frag):R2:=fun x y H Q=> ∃ p xs i v,x= .ref p/\y= .int i/\SqL K H p xs/\atI xs i=some v/\Q v H
noncomputable def zvR (K:W.Frag):R2:=fun x y H Q=> ∃ p xs i v,x= .ref p/\y= .int i/\SqT K H p xs/\atI xs i=some v/\Q v H
theorem zqj:IxR X (zvA X.K):=by
 intro value slice pins s σ H x y v u Q I rx ry h hs
 obtain ⟨p,xs,i,z,rfl,rfl,hq,he,q⟩:=h
 cases rx
 obtain ⟨t,rfl⟩:=ry
 obtain ⟨its,r,pl,hz⟩:=I.list hq
 obtain ⟨j,h1,h2,h3,h4,h5⟩:=zlz he
 obtain ⟨w,ew,rw'⟩:=r.get h2
 have hl:=r.length
 have hn:=zhb
 have fin:EP X pins σ Q w s:=⟨z,H,I,rw',q⟩
 by_cases h0:0<=i
 ·have hj:i.toNat=j:=by
   rw [seqIndex_of h0 h5] at h1
   exact Option.some.inj h1
  exact item_listR pl.isList h0 (by omega) (by rw [hj];simpa using ew) fin hs
 ·have hj:(i+(its.toArray.size:Int)).toNat=j:=by
   rw [seqIndex_neg (by omega) h4] at h1
   rw [qar, <-hl]
   exact Option.some.inj h1
  exact subscriptTail_builtinR (x:=w) pl.isList.typeIs slot_list_getitem.lookup
   (wpAny_getItem_list_neg (Q:=fun r s'=>r=w/\EP X pins σ Q r s') pl.isList (by omega) (by rw [qar]<;>omega) (by omega) (by rw [hj];simpa using ew) ⟨rfl,fin⟩) hs
theorem zrv:IxR X (zvR X.K):=by
 intro value slice pins s σ H x y v u Q I rx ry h hs
 obtain ⟨p,xs,i,z,rfl,rfl,hq,he,q⟩:=h
 cases rx
 obtain ⟨t,rfl⟩:=ry
 obtain ⟨its,r,pl,hz⟩:=I.tuple hq
 obtain ⟨j,h1,h2,h3,h4,h5⟩:=zlz he
 obtain ⟨w,ew,rw'⟩:=r.get h2
 have hl:=r.length
 have hn:=zhb
 have fin:EP X pins σ Q w s:=⟨z,H,I,rw',q⟩
 exact subscriptTail_builtinR (x:=w) pl.typeIs slot_tuple_getitem.lookup
  (getItem_tuple (j:=j) (Q:=fun r s'=>r=w/\EP X pins σ Q r s') pl (by omega) (by omega) (by rw [qar, <-hl];exact h1) (by simpa using ew) ⟨rfl,fin⟩) hs
theorem zjS (its:List Value) (n j:Nat) (u:Value):Obj.mapSeq (·.setIfInBounds j u) {cls:= .type "list",data:= .seq its.toArray n}={cls:= .type "list",data:= .seq (its.set j u).toArray n}:=by
 simp [Obj.mapSeq]
theorem Inv.lst {pins:List (Addr×Obj)} {σ:St} {H:Hp} {s:Shared} {p:Addr} {xs:List V} (I:Inv X pins σ H s) (h:H p=some (.lst xs)):
  ∃ (its:List Value) (n:Nat),zaV xs its/\s.heap.get? p=some {cls:= .type "list",data:= .seq its.toArray n}/\xs.length<=sizeLine:=by
 obtain ⟨z,its,n,r,e⟩:=I.hok p _ h
 exact ⟨its,n,r,e,z⟩
theorem Inv.lstUpd {pins:List (Addr×Obj)} {σ:St} {H:Hp} {s:Shared} {p:Addr} {xs ys:List V} {its its':List Value} {n n':Nat} {f:Obj->Obj} (I:Inv X pins σ H s) (h:H p=some (.lst xs))
  (ho:s.heap.get? p=some {cls:= .type "list",data:= .seq its.toArray n}) (hf:f {cls:= .type "list",data:= .seq its.toArray n}={cls:= .type "list",data:= .seq its'.toArray n'}) (r:zaV ys its') (hz:ys.length<=sizeLine) (t:Nat):
  Inv X pins σ (upd H p (.lst ys)) {s with heap:=s.heap.update p f,toks:=t}:=by
 have e:(s.heap.update p f).get? p=some {cls:= .type "list",data:= .seq its'.toArray n'}:=by
  rw [qai f ho (by rw [hf]<;>rfl),hf]
 refine I.write (x:=p) (e:=p) (by rw [h];trivial) (.inl rfl) (fun b u hb q=>(qae _ _ (Ne.symm hb)).trans q) ⟨_,e⟩ ?_
 exact ⟨hz,its',n',r,e⟩
noncomputable def zur:V->V->V->Hp->(Hp->Prop)->Prop:=fun o i v H Q=> ∃ p xs k j,o= .ref p/\i= .int k/\H p=some (.lst xs)/\ixN xs.length k=some j/\Q (upd H p (.lst (xs.set j v)))
theorem znD:zqa X zur:=by
 intro pins s σ H o i v ov iv u Q I ro ri rv h
 obtain ⟨p,xs,k,j,rfl,rfl,hp,hj,q⟩:=h
 cases ro
 obtain ⟨t,rfl⟩:=ri
 obtain ⟨its,n,r,ho,hz⟩:=I.lst hp
 obtain ⟨h1,h2,h3,h4⟩:=zmd hj
 have hl:=r.length
 have hn:=zhb
 have I':Inv X pins σ (upd H p (.lst (xs.set j v))) {s with heap:=s.heap.update p (Obj.mapSeq (·.setIfInBounds j u))}:=
  I.lstUpd hp ho (zjS its n j u) (r.set rv j) (by rw [qay];exact hz) s.toks
 by_cases h0:0<=k
 ·have hk:k.toNat=j:=by
   rw [seqIndex_of h0 h4] at h1
   exact Option.some.inj h1
  exact W.ki_setAt ho h0 (by omega) (by rw [qar, <-hl];exact h4) (by rw [hk];exact ⟨_,I',q⟩)
 ·have hk:(k+(its.toArray.size:Int)).toNat=j:=by
   rw [seqIndex_neg (by omega) h3] at h1
   rw [qar, <-hl]
   exact Option.some.inj h1
  exact W.ki_setBack ho (by omega) (by rw [qar, <-hl];exact h3) (by omega) (by rw [hk];exact ⟨_,I',q⟩)
theorem zgK (lo hi:Option Int) (n:Nat):(sliceBounds lo hi none n).1=((HT.sIx n 0 lo:Nat):Int)/\(sliceBounds lo hi none n).2.1=((HT.sIx n n hi:Nat):Int)/\(sliceBounds lo hi none n).2.2=1:=by
 refine ⟨?_,?_,rfl⟩
 ·cases lo with
  | none=>simp [sliceBounds,HT.sIx]
  | some i=>
   simp only [sliceBounds,HT.sIx,Option.getD_none,show (1:Int)>0 by decide,if_true]
   by_cases h:i<0
   ·simp only [h,if_true]<;>omega
   ·simp only [h,if_false]<;>omega
 ·cases hi with
  | none=>simp [sliceBounds,HT.sIx]
  | some i=>
   simp only [sliceBounds,HT.sIx,Option.getD_none,show (1:Int)>0 by decide,if_true]
   by_cases h:i<0
   ·simp only [h,if_true]<;>omega
   ·simp only [h,if_false]<;>omega
theorem zf2 (its:List Value) (lo hi:Option Int):slicePick its.toArray lo hi none=((its.drop (HT.sIx its.length 0 lo)).take (HT.sIx its.length its.length hi - HT.sIx its.length 0 lo)).toArray:=by
 obtain ⟨h1,h2,h3⟩:=zgK lo hi its.toArray.size
 unfold slicePick
 rw [h1,h2,h3]
 simp only [sliceRange_one,pick_run,qar]<;>rfl
noncomputable def zvY (K:W.Frag):V->Option Int->Option Int->Hp->VK->Prop:=fun x lo hi H Q=> ∃ a xs,x= .ref a/\SqL K H a xs/\ ∀ p,H p=none->Q (.ref p) (upd H p (.lst (zoy xs lo hi)))
theorem zpp:SlR X (zvY X.K):=by
 intro pins s σ H x v vl vu lo hi sl Q I rx hs pl pu h
 obtain ⟨a,xs,rfl,hx,q⟩:=h
 cases rx
 obtain ⟨its,r,ht,hz⟩:=I.list hx
 have hlen:=r.length
 refine ⟨"list",_,slot_list_getitem.lookup,ht.isList.typeIs,?_⟩
 refine wpAny_getItem_list_slice ht.isList hs pl pu .none (by simp) ?_ (by rw [qar]<;>omega)
 rw [zf2, <-hlen]
 refine ⟨.ref s.heap.objs.size,_,I.laid (t':=s.toks) (o:= .lst (zoy xs lo hi)) (fun b ob q=>qad _ q) (qaG _) ?_,rfl,q _ (I.hok.fresh (qaG _))⟩
 exact ⟨qaE (zfd xs lo hi) hz,_,0,(r.drop (HT.sIx xs.length 0 lo)).take (HT.sIx xs.length xs.length hi - HT.sIx xs.length 0 lo),qal _ rfl⟩
theorem zgG:zay X (.builtin "len") (fun xs H Q=> ∃ p ys,xs=[.ref p]/\(SqL X.K H p ys\/SqT X.K H p ys)/\Q (.int ys.length) H):=by
 intro pins s σ H xs us Q I r h
 obtain ⟨p,ys,rfl,hq,q⟩:=h
 obtain ⟨u,rfl,rx⟩:=zdp r
 cases rx
 have hn:=zhb
 rcases hq with hq | hq
 ·obtain ⟨its,r',pl,hz⟩:=I.list hq
  have hlen:=r'.length
  exact Calls.call_len_list pl.isList (by simp only [qar]<;>omega) ⟨.int ys.length,H,I.tok _,⟨s.toks+1,by rw [qar,hlen]⟩,q⟩
 ·obtain ⟨its,r',pl,hz⟩:=I.tuple hq
  have hlen:=r'.length
  exact len_tuple pl (by simp only [qar]<;>omega) ⟨.int ys.length,H,I.tok _,⟨s.toks+1,by rw [qar,hlen]⟩,q⟩
theorem zay.or {f:Value} {r r':List V->Hp->VK->Prop} (h:zay X f r) (h':zay X f r'):zay X f (fun xs H Q=>r xs H Q\/r' xs H Q):=by
 intro pins s σ H xs us Q I rs q
 rcases q with q | q
 ·exact h pins s σ H xs us Q I rs q
 ·exact h' pins s σ H xs us Q I rs q
theorem zgi:zay X (.type "tuple") (fun xs H Q=> ∃ p ys,xs=[.ref p]/\((SqL X.K H p ys/\ ∀ l,H l=none->Q (.ref l) (upd H l (.tup ys)))\/(SqT X.K H p ys/\Q (.ref p) H))):=by
 intro pins s σ H xs us Q I r h
 obtain ⟨p,ys,rfl,h⟩:=h
 obtain ⟨u,rfl,rx⟩:=zdp r
 cases rx
 rcases h with ⟨hq,q⟩ | ⟨hq,q⟩
 ·obtain ⟨its,r',pl,hz⟩:=I.list hq
  have hlen:=r'.length
  refine call_tuple_list pl.isList (fun h' kp=> ?_) (by simp only [qar]<;>omega)
  have I1:Inv X pins σ H {s with heap:=h'}:=I.kept (t':=s.toks) kp
  have I2:Inv X pins σ (upd H h'.objs.size (.tup ys)) {s with heap:=h'.push {cls:= .type "tuple",data:= .seq its.toArray}}:=
   I1.laid (t':=s.toks) (fun b o e=>qad _ e) (qaG _) (show zbI X.prog X.w _ _ _ (.tup ys) from ⟨hz,its,r',IsTup.new _ _⟩)
  exact ⟨.ref h'.objs.size,_,I2,rfl,q _ (I1.hok.fresh (qaG _))⟩
 ·obtain ⟨its,r',pl,hz⟩:=I.tuple hq
  exact call_tuple_same pl ⟨.ref p,H,I,rfl,q⟩
noncomputable def tyV (K:W.Frag) (T:String) (x:V) (H:Hp):Prop:=match x with
 | .str _=>T="str"
 | .int _=>T="int"
 | .ref p=>(T="list"/\ ∃ xs,SqL K H p xs)\/(T="tuple"/\ ∃ o,K.lookup p=some o/\o.cls= .type "tuple"/\o.dict=none)\/
   (T="dict"/\((∃ kvs,H p=some (.dK kvs))\/ ∃ kvs,H p=some (.dT kvs)))\/(T="set"/\ ∃ S n,H p=some (.set S n))
 | _=>False
theorem ztq {pins:List (Addr×Obj)} {σ:St} {H:Hp} {s:Shared} {T:String} {x:V} {v:Value} (I:Inv X pins σ H s) (r:zbj x v) (ty:tyV X.K T x H):
  s.TypeIs v T/\ ∀ a,v= .ref a-> ∃ ob,s.heap.get? a=some ob/\ob.dict=none:=by
 cases x with
 | str z=>
  obtain ⟨t,rfl⟩:=r
  cases (show T="str" from ty)
  exact ⟨typeIs_str s z t,fun _ e=>nomatch e⟩
 | int i=>
  obtain ⟨t,rfl⟩:=r
  cases (show T="int" from ty)
  exact ⟨typeIs_int s i t,fun _ e=>nomatch e⟩
 | ref p=>
  cases r
  rcases ty with ⟨rfl,xs,hq⟩ | ⟨rfl,o,hk,hc,hd⟩ | ⟨rfl,hk⟩ | ⟨rfl,S,n,hk⟩
  ·obtain ⟨its,_,pl,_⟩:=I.list hq
   refine ⟨pl.isList.typeIs,fun a e=> ?_⟩
   cases e
   obtain ⟨o,n,e,c,hd,_⟩:=pl
   exact ⟨o,e,hd⟩
  ·refine ⟨⟨o,I.kIn p o hk,hc⟩,fun a e=> ?_⟩
   cases e
   exact ⟨o,I.kIn _ o hk,hd⟩
  ·have z: ∃ o,s.heap.get? p=some o/\o.ExactDict:=by
    rcases hk with ⟨kvs,hk⟩ | ⟨kvs,hk⟩
    ·obtain ⟨_,_,_,_,o,_,_,e,ex,_⟩:=I.hok p _ hk
     exact ⟨o,e,ex⟩
    ·obtain ⟨_,_,_,_,o,_,_,e,ex,_⟩:=I.hok p _ hk
     exact ⟨o,e,ex⟩
   obtain ⟨o,e,ex⟩:=z
   refine ⟨⟨o,e,ex.1⟩,fun a e2=> ?_⟩
   cases e2
   exact ⟨o,e,ex.2.1⟩
  ·obtain ⟨o,_,_,_,e,ex,_⟩:=I.hok p _ hk
   refine ⟨⟨o,e,ex.1⟩,fun a e2=> ?_⟩
   cases e2
   exact ⟨o,e,ex.2.1⟩
 | _=>exact False.elim ty
noncomputable def tBM (K:W.Frag) (T:String) (r:V->List V->Hp->VK->Prop) (to:TE) (t:TA):TE:=fun σ H Q=>to σ H fun x H1=>tyV K T x H1/\t σ H1 fun xs H2=>r x xs H2 Q
variable {o e:Expr} {es:List Expr} {to:TE} {t:TA} {name:Str} {apos cpos:Pos} {T id:String} {r:V->List V->Hp->VK->Prop}
theorem zph (pa:PlainAttrs T) (slot:Slot T name id) (hty:typeOf (.builtin id)=pure (.type "method_descriptor")) (hm:MtR X id r) (ho:PE X o to) (ha:PA X (e::es) t)
  (hbase:attributeBase o name X.env (eval o X.env)=eval o X.env:=by rfl)
  (hfew:((backTo cpos (starEach (e::es) X.env)).all (fun x=> !x.1) && (backToKw cpos (keywordEach [] X.env)).all (fun x=>x.1.isSome)
    && decide ((e::es).length+([]:List Keyword).length+(if ([]:List Keyword).isEmpty then 0 else 1)<30))=true:=by rfl)
  (hline:(apos.endLine==cpos.line)=true:=by rfl) (hs:starEach (e::es) X.env=(false,eval e X.env)::starEach es X.env:=by rfl) (hplain:(backTo cpos (starEach es X.env)).any (·.1)=false:=by rfl):
  PE X (.Call (.Attribute o name apos) (e::es) [] cpos) (tBM X.K T r to t):=by
 intro pins s σ H Q I h
 refine wpAny_Call_method_late hbase hfew hline rfl (thn (ho pins s σ H _ I h) fun v s1 ⟨x,H1,I1,r1,ty,q1⟩=> ?_)
 obtain ⟨h1,h2⟩:=ztq I1 r1 ty
 refine ⟨T,id,pa,slot,hty,h1,h2,?_⟩
 have hA:=ha cpos pins s1 σ H1 _ I1 q1
 rw [hs] at hA ⊢
 refine Calls.callWith_builtin (by show (false || (backTo cpos (starEach es X.env)).any (·.1))=false;rw [hplain]<;>rfl) (Calls.evalArgs_plain ?_)
 exact thn hA fun us s2 ⟨vs,H2,I2,r2,q2⟩=>hm pins s2 σ H2 x vs v us Q I2 r1 r2 q2
end
noncomputable def MtM (X:Cx) (id:String) (r:V->List V->Hp->VK->Prop):Prop:=
 ∀ (pins:List (Addr×Obj)) (s:Shared) (σ:St) (H:Hp) (x:V) (xs:List V) (v:Value) (us:List Value) (Q:VK),Inv X pins σ H s->zbj x v->zaV xs us->r x xs H Q->
  wpAny (model X.prog X.w) X.A (call (.builtin id) (v::us)) (EP X pins σ Q) X.xe s
theorem zaV.one: ∀ {x:V} {us:List Value},zaV [x] us-> ∃ u,us=[u]/\zbj x u
 | _,_,.cons r .nil=>⟨_,rfl,r⟩
theorem zaV.zero: ∀ {us:List Value},zaV [] us->us=[]
 | _,.nil=>rfl
theorem zaV.eraseIdx: ∀ {xs:List V} {us:List Value} (i:Nat),zaV xs us->zaV (xs.eraseIdx i) (us.eraseIdx i)
 | _,_,_,.nil=> .nil
 | _,_,0,.cons _ t=>t
 | _,_,i+1,.cons r t=> .cons r (zaV.eraseIdx i t)
theorem zaV.reverse {xs:List V} {us:List Value} (h:zaV xs us):zaV xs.reverse us.reverse:=by
 induction h with
 | nil=>exact .nil
 | cons r t ih=>rw [List.reverse_cons,List.reverse_cons];exact zaV.append ih (.cons r .nil)
theorem zaV.rep {xs:List V} {us:List Value} (h:zaV xs us): ∀ k:Nat,zaV (List.replicate k xs).flatten (List.replicate k us).flatten
 | 0=> .nil
 | k+1=>by
  rw [List.replicate_succ,List.replicate_succ,List.flatten_cons,List.flatten_cons]
  exact zaV.append h (zaV.rep h k)
theorem zeH (its:List Value): ∀ (k:Nat) (acc:List Value),
  List.foldl (fun x1 x2=>x1++x2) acc.toArray (List.replicate k its.toArray)=(acc++(List.replicate k its).flatten).toArray
 | 0,acc=>by simp
 | k+1,acc=>by
  have e:acc.toArray++its.toArray=(acc++its).toArray:=by simp
  have e2:(acc++its)++(List.replicate k its).flatten=acc++(List.replicate (k+1) its).flatten:=by
   rw [List.replicate_succ,List.flatten_cons,List.append_assoc]
  rw [<- e2, <-zeH its k (acc++its), <-e,List.replicate_succ,List.foldl_cons]
section
variable {X:Cx} {pins:List (Addr×Obj)} {σ:St} {H:Hp} {s:Shared} {l b:Addr} {xs ys zs:List V}
theorem Inv.lset {its its':List Value} {n:Nat} {f:Array Value->Array Value} {t':Nat} (I:Inv X pins σ H s) (hH:H l=some (.lst xs))
  (e:s.heap.get? l=some {cls:= .type "list",data:= .seq its.toArray n}) (hf:f its.toArray=its'.toArray) (hv:zaV ys its') (hz:ys.length<=sizeLine):
  Inv X pins σ (upd H l (.lst ys)) {s with heap:=s.heap.update l (Obj.mapSeq f),toks:=t'}:=by
 have q:=PySem.IsL.update e f
 rw [hf] at q
 refine I.write (x:=l) (e:=l) (by rw [hH];exact trivial) (.inl rfl) (fun b' u hb hu=>(qae s.heap (Obj.mapSeq f) (Ne.symm hb)).trans hu) ⟨_,q⟩ ?_
 exact ⟨hz,its',_,hv,q⟩
theorem Inv.lnew {its:List Value} {t':Nat} (I:Inv X pins σ H s) (hv:zaV ys its) (hz:ys.length<=sizeLine):
  Inv X pins σ (upd H s.heap.objs.size (.lst ys)) {s with heap:=s.heap.push {cls:= .type "list",data:= .seq its.toArray},toks:=t'}:=
 I.laid (fun _ _ q=>qad _ q) (qaG _) ⟨hz,its,0,hv,qal _ rfl⟩
theorem Inv.fresh (I:Inv X pins σ H s):H s.heap.objs.size=none:=I.hok.fresh (qaG _)
theorem Inv.lstM (I:Inv X pins σ H s) (hH:H l=some (.lst xs)):xs.length<=sizeLine/\ ∃ (its:List Value) (n:Nat),zaV xs its/\xs.length=its.length/\s.heap.get? l=some {cls:= .type "list",data:= .seq its.toArray n}:=by
 obtain ⟨z,its,n,r,e⟩:=I.hok l _ hH
 exact ⟨z,its,n,r,r.length,e⟩
theorem ziS {n:Nat} (h:n<=sizeLine):Builtin.List.listTooLong n=false:=by
 unfold Builtin.List.listTooLong
 exact decide_eq_false (by omega)
end
section
variable {X:Cx}
noncomputable def zpV:V->List V->Hp->VK->Prop:=fun x vs H Q=> ∃ l xs y,x= .ref l/\vs=[y]/\H l=some (.lst xs)/\xs.length<sizeLine/\Q .non (upd H l (.lst (xs++[y])))
theorem zhk:MtM X "list.append" zpV:=by
 intro pins s σ H x vs v us Q I rx rv h
 obtain ⟨l,xs,y,rfl,rfl,hH,hz,q⟩:=h
 cases rx
 obtain ⟨u,rfl,ru⟩:=rv.one
 obtain ⟨z,its,n,r,hl,e⟩:=I.lstM hH
 refine call_meets F.slot_list_append ⟨_,e,rfl⟩ F.entry_list_append (F.args_list_append_2 _ _) (PySem.list_append l its.toArray n u (by rw [qar];omega)) ⟨e,?_⟩
 refine ⟨.non,_,I.lset (its':=its++[u]) hH e (by simp) (r.append (.cons ru .nil)) ?_,rfl,q⟩
 rw [qao,List.length_singleton]
 omega
noncomputable def zvW:R2:=fun x y H Q=> ∃ l b xs zs,x= .ref l/\y= .ref b/\H l=some (.lst xs)/\H b=some (.lst zs)/\xs.length+zs.length<=sizeLine/\ ∀ p,H p=none->Q (.ref p) (upd H p (.lst (xs++zs)))
theorem zs0:OpR X (binaryOp .Add) zvW:=by
 intro pins s σ H x y v u Q I rx ry h
 obtain ⟨l,b,xs,zs,rfl,rfl,hH,hB,hz,q⟩:=h
 cases rx
 cases ry
 obtain ⟨z,its,n,r,hl,e⟩:=I.lstM hH
 obtain ⟨z2,its2,n2,r2,hl2,e2⟩:=I.lstM hB
 refine PySem.P.add_list e e2 ?_ (by rw [qar,qar];omega)
 have ea:its.toArray++its2.toArray=(its++its2).toArray:=by simp
 rw [ea]
 exact ⟨.ref _,_,I.lnew (t':=s.toks) (r.append r2) (by rw [qao];omega),rfl,q _ I.fresh⟩
noncomputable def zvD:R2:=fun x y H Q=> ∃ l k xs,x= .ref l/\y= .int k/\H l=some (.lst xs)/\ -(2^63)<=k/\k<2^63/\xs.length*k.toNat<=sizeLine/\
 ∀ p,H p=none->Q (.ref p) (upd H p (.lst (List.replicate k.toNat xs).flatten))
theorem zlN {α:Type} (xs:List α) (k:Nat):(List.replicate k xs).flatten.length=k*xs.length:=by
 induction k with
 | zero=>simp
 | succ k ih=>rw [List.replicate_succ,List.flatten_cons,qao,ih,Nat.succ_mul,Nat.add_comm]
theorem zra:OpR X (binaryOp .Mult) zvD:=by
 intro pins s σ H x y v u Q I rx ry h
 obtain ⟨l,k,xs,rfl,rfl,hH,h1,h2,hz,q⟩:=h
 cases rx
 obtain ⟨t,rfl⟩:=ry
 obtain ⟨z,its,n,r,hl,e⟩:=I.lstM hH
 have hlen:its.toArray.size*k.toNat<=sizeLine:=by rw [qar, <-hl];exact hz
 have hcap: ¬its.toArray.size*k.toNat>(2^63 - 1) / 8:=by
  have:(sizeLine:Nat)<=(2^63 - 1) / 8:=by decide
  omega
 have hfit: ¬(!Builtin.List.listFitsIndex k)=true:=by
  rw [fitsIndex_both h1 h2]
  exact Bool.false_ne_true
 have hlong: ¬Builtin.List.listTooLong (its.toArray.size*k.toNat)=true:=by
  rw [ziS hlen]
  exact Bool.false_ne_true
 have hnew:List.foldl (fun x1 x2=>x1++x2) #[] (List.replicate (if its.toArray.isEmpty=true then 0 else k.toNat) its.toArray)=(List.replicate k.toNat its).flatten.toArray:=by
  have f0: ∀ m:Nat,List.foldl (fun x1 x2=>x1++x2) #[] (List.replicate m its.toArray)=(List.replicate m its).flatten.toArray:=fun m=>by
   have:=zeH its m []
   rw [List.nil_append] at this
   exact this
  rw [f0]
  cases its with
  | nil=>simp
  | cons a r'=>rw [if_neg (by simp)]
 refine wpAny_binaryOp_repeat_ref (T:="list") (U:="int") (by decide) ⟨_,e,rfl⟩ (fun s'=>typeIs_int s' k t) noFill_list_mul F.fills_int_mul F.slot_int_rmul repeat_list F.slot_int_index.lookup
  (call_meets F.slot_int_rmul (typeIs_int s k t) F.entry_int_rmul (F.args_int_rmul_2 _ _) (int___rmul___int_list k t l its.toArray n)
    ⟨e,rfl,⟨_,e,rfl⟩,call_meets F.slot_list_mul ⟨_,e,rfl⟩ F.entry_list_mul (F.args_list_mul_2 _ _) (AutoListH.list___mul___list_int_3 l its.toArray n k t hfit hcap hlong) ⟨e,?_⟩⟩)
 rw [hnew]
 exact ⟨.ref _,_,I.lnew (t':=s.toks) (r.rep k.toNat) (by rw [zlN,Nat.mul_comm];exact hz),rfl,q _ I.fresh⟩
end
section
variable {prog:Program} {w:World} {A:Around} {E:Value->Shared->Prop} {s:Shared}
end
section
variable {X:Cx}
end
end L2
namespace Att
open PySem PySem.W PySem.Calls PyProof.Rows
theorem zfk {P:Params} {h:Heap}: ∀ (ns:List Int) (vs:List Value),WellAll P h vs (ns.map WData.int)->IntsAre vs ns:=by
 intro ns
 induction ns with
 | nil=>
  intro vs w
  rw [List.map_nil] at w
  cases w
  exact .nil
 | cons n ns ih=>
  intro vs w
  rw [qaz] at w
  cases w with
  | cons a b=>
   cases a
   exact .cons _ _ (ih _ b)
theorem zlA {l:OpenLaw} {n:Nat} (hn:l.most=some n) {P:Params} {h:Heap} {args:List WData} {vals:List Value}
  (hpre:l.row.toRowW.claim.pre args=true) (hwl:WellAll P h vals args):
  ∃ a vs ns,vals=[Value.ref a]/\args=[WData.list (ns.map WData.int)]/\h.get? a=some {cls:= .type "list",data:= .seq vs.toArray}/\IntsAre vs ns/\ns.length<=n:=by
 have hsh:WShape.hasAll [] args [.list .int]=true:=(pre_splitW hpre).1
 have hc:l.pre.holds [] {args:=args}=true:=(pre_splitW hpre).2
 obtain ⟨d,r,rfl,h1,h2⟩:=hasAllW_cons hsh
 obtain rfl:=hasAllW_nil h2
 obtain ⟨xs,rfl,h3⟩:=hasW_list h1
 obtain ⟨ns,rfl⟩:=items_int h3
 have hlen:ns.length<=n:=by
  unfold OpenLaw.pre at hc
  have h4:(WTm.not (.lt (.lit (.int (n:Int))) (.len (.arg 0)))).holds [] {args:=[.list (ns.map .int)]}=true:=by
   have h4:=(holds_andW hc).1
   rw [hn] at h4
   exact h4
  have h5:=condW_of h4 (w_not (w_lt w_lit (w_len_list (w_arg rfl))))
  rw [qax] at h5
  refine Nat.le_of_not_lt fun q=> ?_
  have q':(n:Int)<((ns.length:Nat):Int):=by omega
  first
   | (rw [decide_eq_true q'] at h5;exact absurd h5 (by decide))
   | (simp at h5;omega)
 cases hwl with
 | cons w1 w2=>
  cases w2
  cases w1 with
  | list ho hall=>exact ⟨_,_,ns,rfl,rfl,ho,zfk ns _ hall,hlen⟩
theorem zks (l:OpenLaw) (args:List WData):l.row.toRowW.claim.post args (.bool true) args=true:=
 postW_of (r:=l.row.toRowW) (X:=(true==true))
  (show WShape.has [] (.bool true) .bool=true by first | rfl | decide | simp [WShape.has,WShape.arms,WShape.armsAll])
  (show (WTm.eq .res (.lit (.bool true))).value [] {args:=args,res:=some (.bool true),after:=args}=some (.bool (true==true)) from w_eq_bool (w_res rfl) w_lit) rfl
section
variable {prog:Program} {w:World} {A:Around} {E:Value->Shared->Prop} {s:Shared} {K:Frag}
end
end Att
namespace L2
open PySem PySem.Spec PyProof.Rows
theorem zeP: ∀ {vs:List Value} {ns:List Int},IntsAre vs ns->zaV (ns.map V.int) vs
 | _,_,.nil=> .nil
 | _,_,.cons n t h=> .cons ⟨t,rfl⟩ (zeP h)
noncomputable def zvq (H:Hp):Prop:= ∀ b,H b=none\/ ∃ o xs,H b=some (.frz o (.lst xs))
theorem znh {P:Program} {w:World} {K:W.Frag} {mg mb:Str->Option Value} {CX:CXT} {k:Nat} {fa a:Addr} {fd:FuncData} {x:Str} {sp:Sp} {s₁:Shared} {vs:List Value} {ns:List Int}
  (KX:K.In s₁.heap) (hns:s₁.heap.Ns mainGlobals mg) (hb:s₁.heap.Ns builtinsNs mb) (hbb: ∀ x:Str,x≠"__name__"->mb x=bootBuiltins x) (hlim:s₁.heap.NoLimit) (hg:s₁.gens= #[])
  (ha:s₁.heap.get? a=some {cls:= .type "list",data:= .seq vs.toArray}) (hi:IntsAre vs ns) (hl:ns.length<=sizeLine) (hr:zda k callerA)
  (F: ∀ base:Heap,K.In base->base.Ns mainGlobals mg->zbG P w K mg base CX k fa fd [x] sp) (hbind: ∀ (s:Shared) (u:Value),BindsTo s fd ⟨[u],[]⟩ [(x,u)])
  (hsp: ∀ H:Hp,zvq H->SqL K H a (ns.map V.int)->sp [.ref a] H (fun v _=>v= .bl true) fun _ _ _=>False)
  (hCX: ∀ H e s',CX [] H s₁ (fun _ _ _=>False) e s'->False):
  codeAny (model P w) callerA (.call (.ref fa) ⟨[.ref a],[]⟩) (fun r s'=>r= .ok (.ret (.bool true))/\OldK s₁.heap s'.heap/\s'.os=s₁.os/\AllBare s'.gens) s₁:=by
 have rv:=zeP hi
 have lenV:=hi.length
 have core: ∀ H:Hp,zvq H->SqL K H a (ns.map V.int)->HOk P w H s₁.heap->(∀ b,H b≠none->b=a)->(H a≠none->K.lookup a=none)->
   codeAny (model P w) callerA (.call (.ref fa) ⟨[.ref a],[]⟩) (fun r s'=>r= .ok (.ret (.bool true))/\OldK s₁.heap s'.heap/\s'.os=s₁.os/\AllBare s'.gens) s₁:=by
  intro H hO hS hok hA hK
  have base_of: ∀ {b:Addr} {o:Obj},s₁.heap.get? b=some o->H b=none->(zog s₁.heap H).get? b=some o:=fun e n=>znx e n
  have noA: ∀ {b:Addr} {o:Obj} {es:Array DictEntry} {ep:Nat},s₁.heap.get? b=some o->o.data= .dict es ep->H b=none:=fun {b o es ep} e d=>by
   cases q:H b with
   | none=>rfl
   | some u=>
    have e':b=a:=hA b (by rw [q];simp)
    subst e'
    rw [ha] at e;cases e
    have d':Data.seq vs.toArray _=Data.dict es ep:=d
    cases d'
  have nsK: ∀ {b:Addr} {m:Str->Option Value},s₁.heap.Ns b m->(zog s₁.heap H).Ns b m:=fun {b m} ⟨o,es,ep,e,d,r⟩=>⟨o,es,ep,base_of e (noA e d),d,r⟩
  have hKb:K.In (zog s₁.heap H):=fun b o e=>base_of (KX b o e) (by
    cases q:H b with
    | none=>rfl
    | some u=>
      have e':b=a:=hA b (by rw [q];simp)
      subst e'
      rw [hK (by rw [q];simp)] at e;cases e)
  have hM:Mod K mg (zog s₁.heap H):=⟨hKb,nsK hns,⟨mb,nsK hb,hbb⟩,let ⟨mc,h1,h2⟩:=hlim;⟨mc,nsK h1,h2⟩⟩
  have e0:zn4 P w K mg (zog s₁.heap H) callerA [] s₁ H:=⟨rfl,hM,fun b o e=>zqt e,Nat.le_of_eq (zkE _ _),trivial,fun b hb=>absurd (show b∈([]:List Addr) from hb) (by simp),hok,.of_eq hg,.inl rfl⟩
  refine codeAny_mono ((F _ hKb (nsK hns)).run callerA [] s₁ H ⟨[.ref a],[]⟩ [.ref a] [.ref a] _ _ hr e0 (hbind s₁ (.ref a)) (.cons rfl .nil) (hsp H hO hS)) fun r s' h=> ?_
  cases r with
  | error e=>exact (hCX H e s' h).elim
  | ok fl=>
   cases fl with
   | next=>exact False.elim h
   | brk=>exact False.elim h
   | cont=>exact False.elim h
   | ret u=>
    obtain ⟨v,H',os,bare,un,hok',r',q⟩:=h
    have q':v= .bl true:=q
    subst q'
    obtain rfl:u=Value.bool true:=r'
    refine ⟨rfl,OldK.of_keep fun b o e=> ?_,os,bare⟩
    cases q:H b with
    | none=>exact un.keep b o e q (by intro z;exact absurd (show b∈([]:List Addr) from z) (by simp)) (by simp)
    | some u=>
     rcases hO b with z | ⟨ob,xs,z⟩
     ·rw [q] at z;cases z
     ·have z2:=un.frzs b ob _ z
      obtain ⟨e1,_⟩:=hok b _ z
      obtain ⟨e2,_⟩:=hok' b _ z2
      rw [e] at e1;cases e1
      exact e2
 cases hk:K.lookup a with
 | some o=>
  have e:=KX a o hk
  rw [ha] at e
  cases e
  refine core (fun _=>none) (fun _=> .inl rfl) (.inr ⟨_,vs.toArray,_,hk,rfl,rfl,rfl,by rw [qar,lenV];exact hl,by simpa using rv⟩) (fun b u z=>by have z':(none:Option HO)=some u:=z;cases z') (fun b z=>absurd rfl z) fun z=>absurd rfl z
 | none=>
  refine core (fun b=>if b=a then some (.frz {cls:= .type "list",data:= .seq vs.toArray} (.lst (ns.map V.int))) else none) (fun b=> ?_) (.inl (.inr ⟨{cls:= .type "list",data:= .seq vs.toArray},if_pos rfl⟩)) (fun b u z=> ?_) (fun b z=> ?_) fun _=>hk
  ·by_cases hb:b=a
   ·exact .inr ⟨_,_,if_pos hb⟩
   ·exact .inl (if_neg hb)
  ·by_cases hb:b=a
   ·have z':=(if_pos hb).symm.trans z
    cases z'
    subst hb
    exact ⟨ha,by rw [qax];exact hl,vs,_,rv,ha⟩
   ·have z':=(if_neg hb).symm.trans z
    cases z'
  ·by_cases hb:b=a
   ·exact hb
   ·exact absurd (if_neg hb) z
noncomputable def zdY (s:Stmt):Arguments:=match s with
 | .FunctionDef _ a _ _ _ _ _ _ _ _=>a
 | _=>{posonlyargs:=[],args:=[],vararg:=none,kwonlyargs:=[],kw_defaults:=[],kwarg:=none,defaults:=[]}
noncomputable def zcf (s:Stmt):List Stmt:=match s with
 | .FunctionDef _ _ b _ _ _ _ _ _ _=>b
 | _=>[]
noncomputable def zae (s:Stmt):Scope:=match s with
 | .FunctionDef _ _ _ _ _ _ sc _ _ _=>sc
 | _=>{kind:= .function,names:=[],isGenerator:=false,isCoroutine:=false}
noncomputable abbrev CX0:CXT:=fun _ _ _ _ _ _=>False
noncomputable abbrev E0:XK:=fun _ _ _=>False
theorem zro {X:Cx}:zc7 CX0 X E0:=fun _ _ _ _ _ _ _ h=>h.elim
structure Fun (K:W.Frag) (x qual:Str) (st:Stmt) (f:Addr) (fd:FuncData):Prop where
 ex: ∃ (oc:Value) (od:Option Addr) (kV doc pm:Value) (an:Option Addr) (cdv ct:Value) (osl:Array (Option Value)),
  fd=W.fnOf x qual (zdY st) (zcf st) (zae st) .none kV doc pm an cdv ct/\K.lookup f=some ⟨oc,od,.func fd,osl⟩/\W.codeIn K cdv qual=true
 kp:W.keepIn K (.ref f)=true
section
variable {P:Program} {w:World} {K:W.Frag} {mg:Str->Option Value} {base:Heap}
theorem Fun.ok {x qual:Str} {st:Stmt} {f:Addr} {fd:FuncData} {N ps:List Str} {k:Nat} {sp:Sp} (F:Fun K x qual st f fd) (S:zas N ps (zae st)) (len: ∀ vs H Q E,sp vs H Q E->vs.length=ps.length)
  (hbody: ∀ (cdv:Value) (A:Around) (outer:List Env) (s:Shared) (H:Hp) (vs:List V) (Q:VK) (E:XK),zda k (A.deeper (envOfC qual (zae st) s.heap.objs.size f cdv))->sp vs H Q E->
    ∃ t,PSs (zhC CX0 P w K mg base N qual (zae st) f cdv A outer s H E).nox (zcf st) t/\t {nx:=fun _ H'=>Q .non H',rt:=Q} (zdR N vs) H):zbG P w K mg base CX0 (k+1) f fd ps sp:=by
 obtain ⟨oc,od,kV,doc,pm,an,cdv,ct,osl,rfl,lk,hcd⟩:=F.ex
 refine zsk lk hcd S len fun A outer s H vs Q E hr hsp=> ?_
 obtain ⟨t,h,q⟩:=hbody cdv A outer s H vs Q E hr hsp
 exact ⟨t,h.nox,q⟩
theorem Fun.binds {x qual:Str} {st:Stmt} {f:Addr} {fd:FuncData} {ps:List Str} (F:Fun K x qual st f fd)
  (h: ∀ (kV doc pm:Value) (an:Option Addr) (cdv ct:Value) (us:List Value),us.length=ps.length->bindArgs (W.fnOf x qual (zdY st) (zcf st) (zae st) .none kV doc pm an cdv ct) ⟨us,[]⟩=pure (ps.zip us)):zaF K fd ps []:=by
 obtain ⟨oc,od,kV,doc,pm,an,cdv,ct,osl,rfl,lk,hcd⟩:=F.ex
 exact .all (h kV doc pm an cdv ct)
theorem zaK {x qual:Str} {st:Stmt} {f:Addr} {oc:Value} {od an:Option Addr} {osl:Array (Option Value)} {kV doc pm cdv ct:Value} (l:K.lookup f=some ⟨oc,od,.func (W.fnOf x qual (zdY st) (zcf st) (zae st) .none kV doc pm an cdv ct),osl⟩)
  (c:W.codeIn K cdv qual=true) (k:W.keepIn K (.ref f)=true):Fun K x qual st f (W.fnOf x qual (zdY st) (zcf st) (zae st) .none kV doc pm an cdv ct):=⟨⟨oc,od,kV,doc,pm,an,cdv,ct,osl,rfl,l,c⟩,k⟩
end
section
variable {X:Cx}
theorem pv (i:Nat) {x:Str} {pos:Pos} (hN:X.N[i]? = some x:=by rfl) (hv:Vis X.env.scope x:=by first | exact Or.inl rfl | exact Or.inr (Or.inl rfl) | exact Or.inr (Or.inr rfl)) (hd:(x==("__debug__":Str))=false:=by decide)
  (hcd:(x==("__classdict__":Str))=false:=by decide):PE X (.Name x pos) (zvs i):=zoO hN hv hd hcd
end
theorem zq3 {A B:Prop} (h:B):if false=true then A else B:=by
 rw [if_neg Bool.false_ne_true]
 exact h
theorem zq1 {A B:Prop} (h:A):if true=true then A else B:=by
 rw [if_pos rfl]
 exact h
noncomputable def zmG (H H':Hp):Prop:= ∀ b o,H b=some o->H' b=some o
theorem zmG.refl (H:Hp):zmG H H:=fun _ _ h=>h
theorem zmG.trans {H H1 H2:Hp} (a:zmG H H1) (b:zmG H1 H2):zmG H H2:=fun c o h=>b c o (a c o h)
theorem zmG.free {H H':Hp} (e:zmG H H') {l:Addr} (h:H' l=Option.none):H l=Option.none:=by
 cases q:H l with
 | none=>rfl
 | some o=>
  rw [e l o q] at h
  cases h
theorem zmG.seq {K:W.Frag} {H H':Hp} {a:Addr} {xs:List V} (e:zmG H H') (h:SqL K H a xs):SqL K H' a xs:=by
 rcases h with (h | ⟨o,h⟩) | h
 ·exact .inl (.inl (e _ _ h))
 ·exact .inl (.inr ⟨o,e _ _ h⟩)
 ·exact .inr h
noncomputable def zbh (cells:List (Str×Addr)):List (Str×NameKind)->List (Str×Addr)->List (Str×Addr)
 | [],acc=>acc
 | (n,k)::r,acc=>if k== .free then zbh cells r ((n,(cells.lookup n).getD 0)::acc) else zbh cells r acc
theorem zdE {scope:Scope} {env:Env} (h: ∀ x∈scope.names,x.2= .free-> ∃ c,env.cells.lookup x.1=some c):closureFor scope env=pure (zbh env.cells scope.names []):=by
 simp only [closureFor]
 generalize hn:scope.names=names at h
 clear hn
 generalize hacc:([]:List (Str×Addr))=acc
 clear hacc
 have key: ∀ (names:List (Str×NameKind)) (acc:List (Str×Addr)),(∀ x∈names,x.2= .free-> ∃ c,env.cells.lookup x.1=some c)->
   (forIn (m:=Sem) names acc fun (x:Str×NameKind) (r:List (Str×Addr))=>(match x with
     | (name,kind)=>if (kind==NameKind.free)=true then do
         let a<-cellOf env name
         pure (ForInStep.yield ((name,a)::r))
       else pure (ForInStep.yield r)))=pure (zbh env.cells names acc):=by
  intro names
  induction names with
  | nil=>intro acc _;rfl
  | cons x r ih=>
   intro acc h
   obtain ⟨n,k⟩:=x
   rw [List.forIn_cons]
   unfold zbh
   by_cases hk:(k==NameKind.free)=true
   ·simp only [hk,if_true]
    obtain ⟨c,hc⟩:=h (n,k) qan (by simpa using hk)
    have e:cellOf env n=pure c:=by unfold cellOf;rw [show env.cells.lookup n=some c from hc]
    rw [e,show (env.cells.lookup n).getD 0=c by rw [show env.cells.lookup n=some c from hc];rfl]
    exact ih _ fun y hy=>h y (qaj _ hy)
   ·simp only [hk,if_false]
    exact ih _ fun y hy=>h y (qaj _ hy)
 have k:=key names acc h
 refine Eq.trans (congrArg (fun (z:Sem (List (Str×Addr)))=>z>>=fun r=>pure r) k) ?_
 rfl
theorem zdQ {cells:List (Str×Addr)}: ∀ {names:List (Str×NameKind)} {acc:List (Str×Addr)} {n:Str} {c:Addr},(n,c)∈zbh cells names acc->
  (n,c)∈acc\/((n,NameKind.free)∈names/\c=(cells.lookup n).getD 0)
 | [],_,_,_,h=> .inl h
 | (y,k)::r,acc,n,c,h=>by
  unfold zbh at h
  by_cases hk:(k==NameKind.free)=true
  ·rw [if_pos hk] at h
   have ek:k= .free:=by simpa using hk
   subst ek
   rcases zdQ h with h | ⟨h1,h2⟩
   ·rcases List.mem_cons.mp h with e | h
    ·cases e
     exact .inr ⟨qan,rfl⟩
    ·exact .inl h
   ·exact .inr ⟨qaj _ h1,h2⟩
  ·rw [if_neg hk] at h
   rcases zdQ h with h | ⟨h1,h2⟩
   ·exact .inl h
   ·exact .inr ⟨qaj _ h1,h2⟩
theorem zdk {cells:List (Str×Addr)} {x:Str} {c:Addr} (hc:cells.lookup x=some c): ∀ (names:List (Str×NameKind)) (acc:List (Str×Addr)),((x,NameKind.free)∈names\/acc.lookup x=some c)->(zbh cells names acc).lookup x=some c
 | [],acc,h=>h.elim (fun z=>nomatch z) id
 | (y,k)::r,acc,h=>by
  unfold zbh
  by_cases hk:(k==NameKind.free)=true
  ·rw [if_pos hk]
   refine zdk hc r _ ?_
   by_cases hy:x=y
   ·subst hy
    exact .inr (by rw [List.lookup_cons,beq_self_eq_true,hc];rfl)
   ·rcases h with h | h
    ·rcases List.mem_cons.mp h with e | h
     ·cases e;exact absurd rfl hy
     ·exact .inl h
    ·refine .inr ?_
     rw [List.lookup_cons,show (x==y)=false by simpa using hy]
     exact h
  ·rw [if_neg hk]
   refine zdk hc r _ ?_
   rcases h with h | h
   ·rcases List.mem_cons.mp h with e | h
    ·cases e;exact absurd rfl hk
    ·exact .inl h
   ·exact .inr h
theorem zcx: ∀ {names:List (Str×NameKind)} {n:Nat} {acc:List (Str×Addr)} {x:Str} {c:Addr},(x,c)∈cellsFrom n names acc->(x,c)∈acc\/(n<=c/\(x,NameKind.cell)∈names)
 | [],_,_,_,_,h=> .inl h
 | (y,k)::r,n,acc,x,c,h=>by
  unfold cellsFrom at h
  by_cases hk:(k==NameKind.cell)=true
  ·rw [if_pos hk] at h
   have ek:k= .cell:=by simpa using hk
   subst ek
   rcases zcx h with h | ⟨h,h'⟩
   ·rcases List.mem_cons.mp h with e | h
    ·cases e;exact .inr ⟨qaG _,qan⟩
    ·exact .inl h
   ·exact .inr ⟨Nat.le_of_succ_le h,qaj _ h'⟩
  ·rw [if_neg hk] at h
   rcases zcx h with h | ⟨h,h'⟩
   ·exact .inl h
   ·exact .inr ⟨h,qaj _ h'⟩
theorem zbT {x:Str} {c:Addr}: ∀ (names:List (Str×NameKind)) (n:Nat) (acc:List (Str×Addr)),(x,NameKind.cell)∉names->acc.lookup x=some c->(cellsFrom n names acc).lookup x=some c
 | [],_,_,_,h=>h
 | (y,k)::r,n,acc,hn,h=>by
  unfold cellsFrom
  by_cases hk:(k==NameKind.cell)=true
  ·rw [if_pos hk]
   have ek:k= .cell:=by simpa using hk
   subst ek
   refine zbT r _ _ (fun z=>hn (qaj _ z)) ?_
   have hy:x≠y:=fun e=>hn (by rw [e];exact qan)
   rw [List.lookup_cons,show (x==y)=false by simpa using hy]
   exact h
  ·rw [if_neg hk]
   exact zbT r _ _ (fun z=>hn (qaj _ z)) h
theorem zbU: ∀ (names:List (Str×NameKind)) (n:Nat) (acc:List (Str×Addr)),(∀ x c,(x,c)∈acc->c<n)->(acc.Pairwise fun x y=>x.2≠y.2)->(cellsFrom n names acc).Pairwise fun x y=>x.2≠y.2
 | [],_,_,_,h=>h
 | (y,k)::r,n,acc,hlt,h=>by
  unfold cellsFrom
  by_cases hk:(k==NameKind.cell)=true
  ·rw [if_pos hk]
   refine zbU r (n+1) _ (fun x c hm=> ?_) (List.pairwise_cons.mpr ⟨fun z hz e=> ?_,h⟩)
   ·rcases List.mem_cons.mp hm with e | hm
    ·cases e;exact Nat.lt_succ_self _
    ·exact Nat.lt_succ_of_lt (hlt x c hm)
   ·have:=hlt z.1 z.2 hz
    have e':n=z.2:=e
    exact qaA _ (e'▸this)
  ·rw [if_neg hk]
   exact zbU r n acc hlt h
noncomputable def zpa (env:Env) (scope:Scope) (C:Addr):Env:=
 {scope:=relabel scope env,locals:=C,globals:=env.globals,cells:=cellsFrom (C+1) scope.names (zbh env.cells scope.names []),qual:=env.qual,func:=none,code:=env.code,frame:=env.frame,builtins:=env.builtins}
section
variable {M:Model} {A:Around} {E:Value->Shared->Prop} {s:Shared}
theorem zfn {scope:Scope} {env:Env} {cl:List (Str×Addr)} {Q:Env->Shared->Prop}
  (hQ: ∀ h',(∀ b o,s.heap.get? b=some o->h'.get? b=some o)->h'.Ns s.heap.objs.size (fun _=>none)->(∀ x c,(x,NameKind.cell)∈scope.names->(x,c)∈cellsFrom (s.heap.objs.size+1) scope.names cl->(x,c)∉cl->h'.IsCell c none)->
    Q {scope,locals:=s.heap.objs.size,globals:=env.globals,cells:=cellsFrom (s.heap.objs.size+1) scope.names cl,qual:=env.qual,func:=none,code:=env.code,frame:=env.frame,builtins:=env.builtins} {s with heap:=h'}):
  wpAny M A (newFunctionEnv scope env.globals cl [] env.qual none .none (some env)) Q E s:=by
 simp only [newFunctionEnv,Option.isSome_some,if_true]
 refine qaH (wpAny_alloc ?_)
 refine qaH (wpAny_layCells _ (fun name kind cells=>by cases hkc:kind==NameKind.cell<;>simp [hkc]) _ _ _ _ ?_)
 simp only [List.forIn_nil]
 refine qaH (qaI (qaI ?_))
 rw [show ({s with heap:=s.heap.push {cls:= .type "dict",data:= .dict #[]}}:Shared).heap.objs.size=s.heap.objs.size+1 from Heap.size_push ..]
 have key: ∀ (names:List (Str×NameKind)) (h:Heap) (acc:List (Str×Addr)) (x:Str) (c:Addr),(x,c)∈cellsFrom h.objs.size names acc->(x,c)∉acc->(pushCells h names).IsCell c none:=by
  intro names
  induction names with
  | nil=>intro h acc x c hm hn;exact absurd hm hn
  | cons y r ih=>
   intro h acc x c hm hn
   obtain ⟨n,k⟩:=y
   unfold cellsFrom at hm
   unfold pushCells
   by_cases hk:(k==NameKind.cell)=true
   ·rw [if_pos hk] at hm ⊢
    by_cases hin:(x,c)∈((n,h.objs.size)::acc)
    ·rcases List.mem_cons.mp hin with e | e
     ·cases e
      exact ⟨_,pushCells_keeps _ _ _ _ (qal _ rfl),rfl⟩
     ·exact absurd e hn
    ·refine ih (h.push {cls:= .type "cell",data:= .cell none}) ((n,h.objs.size)::acc) x c ?_ hin
     rw [Heap.size_push]
     exact hm
   ·rw [if_neg hk] at hm ⊢
    exact ih h acc x c hm hn
 refine hQ _ (fun b o e=>pushCells_keeps _ _ b o (qad _ e)) ((Heap.Ns.new s.heap (.type "dict")).keeps (pushCells_keeps _ _)) fun x c _ hm hn=> ?_
 refine key scope.names _ cl x c ?_ hn
 rw [Heap.size_push]
 exact hm
end
section
variable {prog:Program} {w:World} {A:Around} {E:Value->Shared->Prop} {R:Result->Shared->Prop} {s:Shared}
theorem zhf {elt target iter:Expr} {ifs:List Expr} {scope:Scope} {pos:Pos} {it acc:Value} {env:Env} (I:Nat->Shared->Prop)
  (turn: ∀ n s,I n s->wpAny (model prog w) A (pyNext it) (fun r s₁=>match r with
    | none=>R (.ok .next) s₁
    | some v=>wpAny (model prog w) A (letOwnedTupleGo target it v) (fun _ s₁'=>wpAny (model prog w) A (assign target env v) (fun _ s₂=>
        wpAny (model prog w) A (forIn ifs true fun c r=>if r=true then do let ok<-isTrue c env (eval c env);pure (ForInStep.yield ok) else pure (ForInStep.yield r)) (fun ok s₃=>
          if ok=true then wpAny (model prog w) A (eval elt env) (fun x s₄=>
            wpAny (model prog w) A (call (.builtin "list.append") [acc,x]) (fun _ s₅=> ∃ m,m<n/\I m s₅) (fun _ _=>False) s₄) (fun _ _=>False) s₃
          else ∃ m,m<n/\I m s₃) (fun _ _=>False) s₂) (fun _ _=>False) s₁') (fun _ _=>False) s₁) (fun _ _=>False) s)
  (n:Nat) (h:I n s):
  codeAny (model prog w) A (.compLoop (.ListComp elt [⟨target,iter,ifs,0⟩] scope pos) 0 it acc env) R s:=by
 refine codeAny_loop rfl I (fun n s hI=> ?_) n h
 show wpAny _ A ((compTurn (.ListComp elt [⟨target,iter,ifs,0⟩] scope pos) 0 it acc env).onRaise (fun x=>do noteFrame x env;theTreesLotGoes x)) _ _ s
 refine wpAny_noted ?_
 rw [compTurn_list]
 refine qaH (wpAny_standAt (qaH (qaK (turn n s hI) (fun r s₁ h₁=> ?_) fun _ _ h'=>h'.elim)))
 cases r with
 | none=>exact qaI h₁
 | some v=>
  refine qaH (qaK h₁ (fun _ s₁' h₁'=> ?_) fun _ _ h'=>h'.elim)
  refine qaH (qaK h₁' (fun _ s₂ h₂=>qaH (qaK h₂ (fun ok s₃ h₃=> ?_) fun _ _ h'=>h'.elim)) fun _ _ h'=>h'.elim)
  cases ok with
  | false=>exact qaI ⟨rfl,h₃⟩
  | true=>
   exact qaH (qaH (qaK h₃ (fun x s₄ h₄=>qaH (qaK h₄ (fun _ s₅ h₅=>qaI (qaI ⟨rfl,h₅⟩)) fun _ _ h'=>h'.elim)) fun _ _ h'=>h'.elim))
end
noncomputable abbrev cxB (X:Cx) (scope:Scope) (N:List Str) (s:Shared) (H:Hp) (fp:List Addr):Cx:=
 {prog:=X.prog,w:=X.w,K:=X.K,mg:=X.mg,base:=X.base,A:=X.A,N:=N,s₀:=s,H₀:=H,env:=zpa X.env scope s.heap.objs.size,outer:=X.stack,stack:=X.stack,ex:=fp,
   fn:=fun x=>scope.names.lookup x==some .cell,calm:=X.calm,pn:=[],xe:=fun _ _=>False}
noncomputable def zos (Xn:List (Str×NameKind)) (XN:List Str) (names:List (Str×NameKind)) (N:List Str) (src:List (Option Nat)):Bool:=
 decide N.Nodup && decide (names.map (·.1)).Nodup && (src.length==N.length) &&
 names.all (fun x=>x.2 != .local || names.lookup x.1==some .local) &&
 names.all (fun x=>x.2 != .cell || names.lookup x.1==some .cell) &&
 names.all (fun x=>x.2 != .free || Xn.lookup x.1==some .cell || Xn.lookup x.1==some .free) &&
 (N.zip src).all (fun p=>match p.2 with
   | none=>true
   | some i=>XN[i]? == some p.1 && names.lookup p.1==some .free)
structure BOk (X:Cx) (scope:Scope) (N:List Str) (src:List (Option Nat)):Prop where
 kind:scope.kind= .function
 nd:N.Nodup
 keys:(scope.names.map (·.1)).Nodup
 len:src.length=N.length
 locs: ∀ x∈scope.names,x.2= .local->scope.names.lookup x.1=some .local
 cels: ∀ x∈scope.names,x.2= .cell->scope.names.lookup x.1=some .cell
 free: ∀ x∈scope.names,x.2= .free->X.env.kindOf x.1=some .cell\/X.env.kindOf x.1=some .free
 src: ∀ (k i:Nat) (x:Str),src[k]? = some (some i)->N[k]? = some x->X.N[i]? = some x/\scope.names.lookup x=some .free
theorem BOk.of {X:Cx} {scope:Scope} {N:List Str} {src:List (Option Nat)} {Xn:List (Str×NameKind)} {XN:List Str} (hk:scope.kind= .function) (hX:X.env.scope.names=Xn) (hN:X.N=XN)
  (h:zos Xn XN scope.names N src=true):BOk X scope N src:=by
 unfold zos at h
 simp only [Bool.and_eq_true,qau,List.all_eq_true,beq_iff_eq] at h
 obtain ⟨⟨⟨⟨⟨⟨h1,h2⟩,h3⟩,h4⟩,h4'⟩,h5⟩,h6⟩:=h
 refine ⟨hk,h1,h2,h3,fun x hx e=> ?_,fun x hx e=> ?_,fun x hx e=> ?_,fun k i x e1 e2=> ?_⟩
 ·have:=h4 x hx
  rw [e] at this
  simpa using this
 ·have:=h4' x hx
  rw [e] at this
  simpa using this
 ·have:=h5 x hx
  rw [e] at this
  unfold Env.kindOf
  rw [hX]
  simpa using this
 ·have hm:(x,some i)∈N.zip src:=by
   refine List.mem_iff_getElem?.mpr ⟨k,?_⟩
   rw [List.getElem?_zip_eq_some]
   exact ⟨e2,e1⟩
  have:=h6 _ hm
  dsimp only at this
  simp only [Bool.and_eq_true,beq_iff_eq] at this
  rw [hN]
  exact this
noncomputable def bStart (src:List (Option Nat)) (σ:St):St:=src.map fun o=>o.bind fun i=>(σ[i]?).join
theorem zfo {scope:Scope} {env:Env} {x:Str}:(relabel scope env).names.lookup x=(scope.names.lookup x).map fun k=>if (k== .free && env.scope.kind== .function && env.kindOf x==some .cell) then .cell else k:=by
 show List.lookup x (scope.names.map _)=_
 induction scope.names with
 | nil=>rfl
 | cons y r ih=>
  obtain ⟨n,k⟩:=y
  rw [qaz]
  dsimp only
  by_cases hx:x=n
  ·subst hx
   by_cases hc:(k==NameKind.free && env.scope.kind== .function && env.kindOf x==some .cell)=true
   ·rw [if_pos hc,List.lookup_cons,List.lookup_cons,beq_self_eq_true]
    dsimp only [Option.map]
    rw [if_pos hc]
   ·rw [if_neg hc,List.lookup_cons,List.lookup_cons,beq_self_eq_true]
    dsimp only [Option.map]
    rw [if_neg hc]
  ·have hb:(x==n)=false:=by simpa using hx
   by_cases hc:(k==NameKind.free && env.scope.kind== .function && env.kindOf n==some .cell)=true
   ·rw [if_pos hc,List.lookup_cons,List.lookup_cons,hb]
    exact ih
   ·rw [if_neg hc,List.lookup_cons,List.lookup_cons,hb]
    exact ih
section
variable {X:Cx} {pins:List (Addr×Obj)} {σ:St} {H:Hp} {s:Shared} {scope:Scope} {N:List Str} {src:List (Option Nat)} {fp:List Addr}
theorem zpf (I:Inv X pins σ H s) (B:BOk X scope N src) {x:Str} {c:Addr} (h:(x,c)∈zbh X.env.cells scope.names []):X.env.cells.lookup x=some c/\(x,NameKind.free)∈scope.names:=by
 rcases zdQ h with z | ⟨z,e⟩
 ·exact nomatch z
 ·obtain ⟨c',hc⟩:=I.ok.has x (B.free _ z rfl)
  rw [hc] at e
  exact ⟨by rw [hc,e];rfl,z⟩
theorem zgO {l:List (Str×NameKind)} (h:(l.map (·.1)).Nodup) {x:Str} {j k:NameKind} (a:(x,j)∈l) (b:(x,k)∈l):j=k:=by
 induction l with
 | nil=>exact nomatch a
 | cons y r ih=>
  obtain ⟨h1,h2⟩:=List.nodup_cons.mp (show (y.1::r.map (·.1)).Nodup from h)
  rcases List.mem_cons.mp a with e | a<;>rcases List.mem_cons.mp b with e' | b
  ·rw [<- e] at e';cases e';rfl
  ·exact absurd (List.mem_map.mpr ⟨_,b,by rw [<- e]⟩) h1
  ·exact absurd (List.mem_map.mpr ⟨_,a,by rw [<- e']⟩) h1
  ·exact ih h2 a b
theorem zdO (I:Inv X pins σ H s): ∀ (names:List (Str×NameKind)) (acc:List (Str×Addr)),(∀ x∈names,x.2= .free-> ∃ c,X.env.cells.lookup x.1=some c)->(names.map (·.1)).Nodup->(∀ x c,(x,c)∈acc->X.env.cells.lookup x=some c/\x∉names.map (·.1))->
  (acc.Pairwise fun x y=>x.2≠y.2)->(zbh X.env.cells names acc).Pairwise fun x y=>x.2≠y.2
 | [],_,_,_,_,h=>h
 | (n,k)::r,acc,hf,nd,ha,h=>by
  unfold zbh
  obtain ⟨h1,h2⟩:=List.nodup_cons.mp (show (n::r.map (·.1)).Nodup from nd)
  by_cases hk:(k==NameKind.free)=true
  ·rw [if_pos hk]
   obtain ⟨c,hc⟩:=hf (n,k) qan (by simpa using hk)
   have hc:X.env.cells.lookup n=some c:=hc
   rw [show (X.env.cells.lookup n).getD 0=c by rw [hc];rfl]
   refine zdO I r _ (fun x hx=>hf x (qaj _ hx)) h2 (fun x c' hm=> ?_) (List.pairwise_cons.mpr ⟨fun y hy e=> ?_,h⟩)
   ·rcases List.mem_cons.mp hm with e | hm
    ·cases e;exact ⟨hc,h1⟩
    ·exact ⟨(ha x c' hm).1,fun z=>(ha x c' hm).2 (qaj _ z)⟩
   ·obtain ⟨q1,q2⟩:=ha y.1 y.2 hy
    have e':c=y.2:=e
    rw [<- e'] at q1
    have:=I.ok.inj _ _ _ hc q1
    exact q2 (by rw [<- this];exact qan)
  ·rw [if_neg hk]
   exact zdO I r acc (fun x hx=>hf x (qaj _ hx)) h2 (fun x c' hm=>⟨(ha x c' hm).1,fun z=>(ha x c' hm).2 (qaj _ z)⟩) h
theorem zk9 (I:Inv X pins σ H s) (B:BOk X scope N src) (hf: ∀ b∈fp,zmD X pins H b) (hfo: ∀ b∈fp, ∃ o,s.heap.get? b=some o) {h':Heap} (hk: ∀ b o,s.heap.get? b=some o->h'.get? b=some o) (hns:h'.Ns s.heap.objs.size (fun _=>none))
  (hce: ∀ x c,(x,NameKind.cell)∈scope.names->(x,c)∈cellsFrom (s.heap.objs.size+1) scope.names (zbh X.env.cells scope.names [])->(x,c)∉zbh X.env.cells scope.names []->h'.IsCell c none):
  Inv (cxB X scope N s H fp) [] (bStart src σ) H {s with heap:=h'}:=by
 have cin: ∀ {x:Str} {c:Addr},(x,c)∈zbh X.env.cells scope.names []->X.env.cells.lookup x=some c/\(x,NameKind.free)∈scope.names:=fun h=>zpf I B h
 have old: ∀ {x:Str} {c:Addr},X.env.cells.lookup x=some c->c<s.heap.objs.size:=fun {x c} h=>(let ⟨_,q⟩:=I.cell x c h;q.lt)
 have all: ∀ {x:Str} {c:Addr},(x,c)∈cellsFrom (s.heap.objs.size+1) scope.names (zbh X.env.cells scope.names [])->(X.env.cells.lookup x=some c/\(x,NameKind.free)∈scope.names)\/(s.heap.objs.size<c/\(x,NameKind.cell)∈scope.names):=fun {x c} h=>by
  rcases zcx h with z | ⟨z,z'⟩
  ·exact .inl (cin z)
  ·exact .inr ⟨z,z'⟩
 have lk: ∀ {x:Str} {c:Addr},(zpa X.env scope s.heap.objs.size).cells.lookup x=some c->(x,c)∈cellsFrom (s.heap.objs.size+1) scope.names (zbh X.env.cells scope.names []):=fun h=>PySem.mem_of_lookup h
 have hasF: ∀ x∈scope.names,x.2= .free-> ∃ c,X.env.cells.lookup x.1=some c:=fun x hx e=>I.ok.has x.1 (B.free x hx e)
 have ap:(cellsFrom (s.heap.objs.size+1) scope.names (zbh X.env.cells scope.names [])).Pairwise fun x y=>x.2≠y.2:=
  zbU _ _ _ (fun x c hm=>Nat.lt_succ_of_lt (old (cin hm).1)) (zdO I scope.names [] hasF B.keys (fun _ _ z=>nomatch z) .nil)
 have outer: ∀ {x:Str} {c:Addr},(x,NameKind.free)∈scope.names->X.env.cells.lookup x=some c->(zpa X.env scope s.heap.objs.size).cells.lookup x=some c:=fun {x c} h1 h2=>
  zbT _ _ _ (fun z=>nomatch zgO B.keys h1 z) (zdk h2 scope.names [] (.inl h1))
 have kinds: ∀ x,(zpa X.env scope s.heap.objs.size).kindOf x=(scope.names.lookup x).map fun k=>if (k== .free && X.env.scope.kind== .function && X.env.kindOf x==some .cell) then .cell else k:=fun x=>zfo
 have ckind: ∀ x,((zpa X.env scope s.heap.objs.size).kindOf x=some .cell\/(zpa X.env scope s.heap.objs.size).kindOf x=some .free)->scope.names.lookup x=some .cell\/scope.names.lookup x=some .free:=fun x h=>by
  rw [kinds x] at h
  cases e:scope.names.lookup x with
  | none=>rw [e] at h;simp at h
  | some k=>
   rw [e] at h
   cases k<;>simp at h ⊢
 refine ⟨⟨I.ok.mod,B.kind,I.ok.glob,I.ok.blt,qaG _,fun x y c h1 h2=>name_of_addr ap (lk h1) (lk h2),fun x hx=> ?_,fun x c hfn hx=> ?_,I.ok.hd,I.handA,I.ok.frames,.inl rfl,fun b hb=> ?_,I.bs,qaE I.ok.bsz I.sz,fun b o e hb=> ?_,fun b hb hb'=> ?_,I.stack,I.stkFree⟩,
   rfl,I.bare,Un.kept hk,⟨_,hns,fun i x v h1 h2 h3=> ?_⟩,fun x c h=> ?_,I.hok.fresh (qaG _),fun x c h=> ?_,fun p hp=>absurd (show p∈([]:List (Addr×Obj)) from hp) (by simp),I.hok.kept hk,?_⟩
 ·-- has
  rcases ckind x hx with h | h
  ·exact Option.isSome_iff_exists.mp (W.cellsFrom_some scope.names _ _ (.inl h))
  ·have hm:=PySem.mem_of_lookup h
   obtain ⟨c,hc⟩:=hasF _ hm rfl
   exact ⟨c,outer hm hc⟩
 ·-- cab
  have hfn:scope.names.lookup x=some .cell:=by simpa using hfn
  rcases all (lk hx) with ⟨_,z⟩ | ⟨z,_⟩
  ·exact absurd (zgO B.keys z (PySem.mem_of_lookup hfn)) (by decide)
  ·exact Nat.le_of_lt z
 ·-- exf
  obtain ⟨o,ho⟩:=hfo b hb
  refine ⟨qaD (qaC ho),fun x c hx z=> ?_⟩
  rcases all (lk hx) with ⟨q,_⟩ | ⟨q,_⟩
  ·exact (hf b hb).2.2.2.2.1 x c q z
  ·have:=qaC ho
   rw [<- z] at this
   exact qaA _ (Nat.lt_trans q this)
 ·-- noex
  rcases (hf b hb).2.2.2.1 with z | z
  ·exact I.ok.noex b o e z
  ·exact qaA _ (qap (qap (qaC e) I.ok.bsz) z)
 ·-- exfs
  rcases List.mem_cons.mp (I.stkSub b hb') with z | z
  ·exact (hf b hb).2.1 z
  ·exact (hf b hb).2.2.1 z
 ·-- loc
  unfold bStart at h2
  rw [List.getElem?_map] at h2
  cases e:src[i]? with
  | none=>rw [e] at h2;cases h2
  | some o=>
   rw [e] at h2
   cases o with
   | none=>cases h2
   | some j=>
    have h2:(σ[j]?).join=some v:=by simpa using h2
    have e3:σ[j]? = some (some v):=by
     cases q:σ[j]? with
     | none=>rw [q] at h2;cases h2
     | some z=>rw [q] at h2;simp at h2;rw [h2]
    obtain ⟨b1,b2⟩:=B.src i j x e h1
    have hm:=PySem.mem_of_lookup b2
    obtain ⟨m,hn,hl⟩:=I.loc
    have hfr:=B.free _ hm rfl
    obtain ⟨u,r,l⟩:=hl j x v b1 e3 (.inr hfr)
    rcases l with ⟨k,_⟩ | ⟨k,c,hc,q⟩
    ·rcases hfr with z | z<;>(have z':=k.symm.trans z;cases z')
    ·refine ⟨u,r,.inr ⟨?_,c,outer hm hc,q.keeps hk⟩⟩
     rw [kinds x,b2]
     dsimp only [Option.map]
     split
     ·exact .inl rfl
     ·exact .inr rfl
 ·-- cell
  rcases all (lk h) with ⟨q,_⟩ | ⟨q,q'⟩
  ·obtain ⟨v,z⟩:=I.cell x c q
   exact ⟨v,z.keeps hk⟩
  ·exact ⟨none,hce x c q' (lk h) fun z=>absurd (Nat.lt_trans q (old (cin z).1)) (qaA _)⟩
 ·-- freeC
  rcases all (lk h) with ⟨q,_⟩ | ⟨q,q'⟩
  ·exact I.freeC x c q
  ·exact I.hok.fresh (Nat.le_of_lt q)
 ·unfold bStart
  rw [qax]
  exact B.len
end
noncomputable def PCs (X:Cx) (ifs:List Expr) (t:TT):Prop:=
 ∀ (pins:List (Addr×Obj)) (s:Shared) (σ:St) (H:Hp) (Q:Bool->Hp->Prop),Inv X pins σ H s->t σ H Q->
  wpAny (model X.prog X.w) X.A (forIn ifs true fun c r=>if r=true then do let ok<-isTrue c X.env (eval c X.env);pure (ForInStep.yield ok) else pure (ForInStep.yield r)) (TP X pins σ Q) X.xe s
noncomputable def zvU:TT:=fun _ H Q=>Q true H
theorem zo3 {X:Cx}:PCs X [] zvU:=fun pins s σ H Q I h=>wpAny_tests_nil ⟨H,I,h⟩
theorem zp4 {X:Cx} {c:Expr} {t:TT} (h:PT X c t):PCs X [c] t:=fun pins s σ H Q I hw=>wpAny_tests_one (h pins s σ H Q I hw)
noncomputable def ztC (J:It) (g:TG) (tc:TT) (te:TE) (σ0:St) (H1:Hp) (D:Addr) (Q:Hp->Prop):Prop:=
 ∃ W:Nat->Nat->St->Hp->Prop,(∃ m,W 0 m σ0 (upd H1 D (.lst [])))/\ ∀ i m σ' H',W i m σ' H'->
  (J.stop i H'/\Q H')\/(J.go i H'/\ ∃ Nn:St->Hp->Prop,(∀ σ2 H2,Nn σ2 H2-> ∃ m',m'<m/\W (i+1) m' σ2 H2)/\ ∀ x H2,J.yld i H' x H2->g x σ' H2 fun σ2 H3=>tc σ2 H3 fun b H4=>
    if b=true then te σ2 H4 fun y H5=> ∃ xs,H5 D=some (.lst xs)/\xs.length<sizeLine/\Nn σ2 (upd H5 D (.lst (xs++[y]))) else Nn σ2 H4)
section
variable {X:Cx} {scope:Scope} {N:List Str} {src:List (Option Nat)} {tg iter elt:Expr} {ifs:List Expr} {pos:Pos}
theorem ziN {pins:List (Addr×Obj)} {σ:St} {H:Hp} {s₂:Shared} {it:Addr} {fp:List Addr} {tn:Nat->Heap->Prop} {J:It} {g:TG} {tc:TT} {te:TE} {Q:Addr->Hp->Prop} {E:Value->Shared->Prop} {RR:Value->Addr->Result->Shared->Prop}
  (B:BOk X scope N src)
  (hg: ∀ s H fp,PG (cxB X scope N s H fp) tg g) (ht: ∀ s H fp,PCs (cxB X scope N s H fp) ifs tc) (he: ∀ s H fp,PE (cxB X scope N s H fp) elt te)
  (I2:Inv X pins σ H s₂) (T:zq2 X.prog X.w X.K tg J fp it tn) (st2:tn 0 s₂.heap) (f2: ∀ b∈fp,zmD X pins H b) (hw: ∀ D,H D=none->ztC J g tc te (bStart src σ) H D (Q D))
  (hRR: ∀ D C H' s' m,Inv X pins σ H' s'->s'.heap.Ns C m->s₂.heap.objs.size<=C->C<s'.heap.objs.size->H' C=none->Q D H'->RR (.ref D) C (.ok .next) s'):
  wpAny (model X.prog X.w) X.A (newList []) (fun acc s₃=>wpAny (model X.prog X.w) X.A (newFunctionEnv scope X.env.globals (zbh X.env.cells scope.names []) [] X.env.qual none .none (some X.env)) (fun cenv s₄=>
    codeAny (model X.prog X.w) X.A (.compStart (.ListComp elt [⟨tg,iter,ifs,0⟩] scope pos) 0 (.ref it) acc {cenv with scope:=relabel scope X.env}) (RR acc cenv.locals) s₄) E s₃) E s₂:=by
 refine qat (zfn fun h₁ hk₁ hns₁ hce₁=> ?_)
 dsimp only at hk₁ hns₁ hce₁ ⊢
 have hfresh:H s₂.heap.objs.size=none:=I2.hok.fresh (qaG _)
 have I3:Inv X pins σ (upd H s₂.heap.objs.size (.lst [])) {s₂ with heap:=s₂.heap.push {cls:= .type "list",dict:=none,data:= .seq ([]:List Value).toArray}}:=by
  have:=I2.lnew (its:=[]) (ys:=[]) (t':=s₂.toks) .nil (Nat.zero_le _)
  exact this
 obtain ⟨W,⟨m0,w0⟩,turn⟩:=hw _ hfresh
 generalize hD:s₂.heap.objs.size=D at*
 generalize hs3:({s₂ with heap:=s₂.heap.push {cls:= .type "list",dict:=none,data:= .seq ([]:List Value).toArray}}:Shared)=s₃ at*
 have hh3:s₂.heap.push {cls:= .type "list",dict:=none,data:= .seq ([]:List Value).toArray}=s₃.heap:=by rw [<- hs3]
 rw [hh3] at hk₁ hns₁ hce₁ ⊢
 have push3: ∀ b o,s₂.heap.get? b=some o->s₃.heap.get? b=some o:=fun b o e=>by rw [<- hs3];exact qad _ e
 have sz3:s₃.heap.objs.size=D+1:=by rw [<- hs3, <-hD];exact Heap.size_push ..
 have fpo: ∀ b∈fp, ∃ o,s₂.heap.get? b=some o/\ ∀ v,o.data≠ .cell v:=T.obj _ _ st2
 have fpD: ∀ b∈fp,b≠D:=fun b hb z=>by
  obtain ⟨o,e,_⟩:=fpo b hb
  have:=qaC e
  rw [z, <-hD] at this
  exact qaA _ this
 have f3: ∀ b∈fp,zmD X pins (upd H D (.lst [])) b:=fun b hb=>⟨by rw [zau (fpD b hb)];exact (f2 b hb).1,(f2 b hb).2⟩
 have I4:Inv (cxB X scope N s₃ (upd H D (.lst [])) fp) [] (bStart src σ) (upd H D (.lst [])) {s₃ with heap:=h₁}:=
  zk9 I3 B f3 (fun b hb=>let ⟨o,e,_⟩:=fpo b hb;⟨o,push3 b o e⟩) hk₁ hns₁ hce₁
 have fB: ∀ {H':Hp},(∀ b∈fp,H' b=none)-> ∀ b∈fp,zmD (cxB X scope N s₃ (upd H D (.lst [])) fp) [] H' b:=fun {H'} hn b hb=>
  ⟨hn b hb,(I4.ok.exf b hb).1,I4.ok.exfs b hb,.inl hb,fun x c e=>(I4.ok.exf b hb).2 x c e,fun p hp=>absurd (show p∈([]:List (Addr×Obj)) from hp) (by simp)⟩
 have stat4: ∀ s',s'=({s₃ with heap:=h₁}:Shared)->codeAny (model X.prog X.w) X.A (.compLoop (.ListComp elt [⟨tg,iter,ifs,0⟩] scope pos) 0 (.ref it) (.ref D) (zpa X.env scope s₃.heap.objs.size)) (RR (.ref D) s₃.heap.objs.size) s':=by
  intro s' es
  refine zhf (fun n s'=> ∃ i σ' H',Inv (cxB X scope N s₃ (upd H D (.lst [])) fp) [] σ' H' s'/\tn i s'.heap/\(∀ b∈fp,H' b=none)/\W i n σ' H') ?_ m0 ⟨0,_,_,by rw [es];exact I4,by rw [es];exact T.keep _ _ _ st2 fun b hb o e=>hk₁ b o (push3 b o e),fun b hb=>(f3 b hb).1,w0⟩
  rintro n s5 ⟨i,σ5,H5,I5,st5,fr5,w5⟩
  rcases turn i n σ5 H5 w5 with ⟨stop,qn⟩ | ⟨go,Nn,hN,step⟩
  ·refine thn (T.done (cxB X scope N s₃ (upd H D (.lst [])) fp) rfl rfl rfl i [] s5 σ5 H5 _ I5 (fB fr5) st5 stop) fun r s6 ⟨hr,I6⟩=> ?_
   subst hr
   obtain ⟨m,hnC,_⟩:=I6.loc
   have un:=I6.base
   have u2:Un (frs X.stack) fp H H5 s₂.heap s6.heap:=by
    refine Un.trans ?_ un
    have:=Un.laid (fs:=frs X.stack) (ex:=fp) (H:=H) (h:=s₂.heap) (h':=s₃.heap) (a:=D) (o:= .lst []) push3 (Nat.le_of_eq hD) hfresh
    exact this
   refine hRR D _ H5 s6 m (I2.call' (ch:=fp) (by rw [I6.os, <-hs3]) u2 I6.hok I6.bare fun b hb=> ?_) hnC (by rw [sz3];exact Nat.le_succ _) hnC.lt I6.free qn
   obtain ⟨q0,q1,q2,q3,q4,q5⟩:=f2 b hb
   exact ⟨q3,q1,q4,q5⟩
  ·refine thn (T.item (cxB X scope N s₃ (upd H D (.lst [])) fp) rfl rfl rfl i [] s5 σ5 H5 _ I5 (fB fr5) st5 go) fun r s6 ⟨u,hr,h6⟩=> ?_
   subst hr
   refine thn h6 fun _ s7 ⟨x,H7,I7,r7,y7,st7,fr7⟩=> ?_
   have I7':=I7.pinned (fB fr7) (T.obj _ _ st7)
   refine thn (hg _ _ _ _ s7 σ5 H7 x u _ I7' r7 (step x H7 y7)) fun _ s8 ⟨σ8,H8,I8,q8⟩=> ?_
   refine thn (ht _ _ _ _ s8 σ8 H8 _ I8 q8) fun ok s9 ⟨H9,I9,q9⟩=> ?_
   have again: ∀ {σ7:St} {Hz:Hp} {sz:Shared},Inv (cxB X scope N s₃ (upd H D (.lst [])) fp) ([]++zg7 fp s7.heap) σ7 Hz sz->Nn σ7 Hz-> ∃ m,m<n/\ ∃ i σ' H',Inv (cxB X scope N s₃ (upd H D (.lst [])) fp) [] σ' H' sz/\tn i sz.heap/\(∀ b∈fp,H' b=none)/\W i m σ' H':=fun {σz Hz sz} Iz nz=>by
    obtain ⟨m',hm,wz⟩:=hN _ _ nz
    refine ⟨m',hm,i+1,_,_,Iz.unpinned,T.keep _ _ _ st7 fun b hb o e=>(Iz.pin (b,o) (qah _ (qah _ (zcY hb e)))).1,fun b hb=> ?_,wz⟩
    obtain ⟨o,e,d⟩:=T.obj _ _ st7 b hb
    exact (Iz.pin (b,o) (qah _ (qah _ (zcY hb e)))).2.1
   cases ok with
   | false=>
    rw [if_neg (by decide)] at q9
    rw [if_neg (by decide)]
    exact again I9 q9
   | true=>
    rw [if_pos rfl] at q9
    rw [if_pos rfl]
    refine thn (he _ _ _ _ s9 σ8 H9 _ I9 q9) fun y s10 ⟨yv,H10,I10,ry,xs,e10,z10,q10⟩=> ?_
    refine thn (zhk (X:=cxB X scope N s₃ (upd H D (.lst [])) fp) _ s10 σ8 H10 (.ref D) [yv] (.ref D) [y] (fun _ Hf=>Nn σ8 Hf) I10 rfl (.cons ry .nil) ⟨D,xs,yv,rfl,rfl,e10,z10,q10⟩) fun _ s11 ⟨_,H11,I11,_,q11⟩=> ?_
    exact again I11 q11
 exact codeAny_compStart_list (stat4 _ (by rw [<- hs3])) (T.self _ 0 _ _ _ (T.keep _ _ _ st2 fun b hb o e=>hk₁ b o (push3 b o e)) (stat4 _ (by rw [<- hs3])))
noncomputable def zob (wi:TI) (g:TG) (tc:TT) (te:TE) (src:List (Option Nat)):TE:=fun σ H Q=>wi σ H fun J H1=> ∀ D,H1 D=none->ztC J g tc te (bStart src σ) H1 D fun H'=>Q (.ref D) H'
theorem Inv.letGo {pins:List (Addr×Obj)} {σ:St} {H:Hp} {s:Shared} {C:Addr} {m:Str->Option Value} {h':Heap} (I:Inv X pins σ H s) (hn:s.heap.Ns C m) (hn':H C=none) (hC:X.s₀.heap.objs.size<=C) (hL:C≠X.env.locals) (hp: ∀ p∈X.pn++pins,p.1≠C) (hs:Heap.SameBut C s.heap h'):Inv X pins σ H {s with heap:=h'}:=by
 refine I.turned (t':=s.toks) (it:=C) (fun b o hb e=>(hs.2 b hb).trans e) hn' hL (.inr hC) (fun x c e z=> ?_) hp
 obtain ⟨v,o,ho,hd⟩:=I.cell x c e
 obtain ⟨o',es,ep,ho',hd',_⟩:=hn
 rw [z,ho'] at ho
 cases ho
 rw [hd'] at hd
 cases hd
theorem zlU {wi:TI} {g:TG} {tc:TT} {te:TE} (B:BOk X scope N src) (hi:PI X tg iter wi)
  (hg: ∀ s H fp,PG (cxB X scope N s H fp) tg g) (ht: ∀ s H fp,PCs (cxB X scope N s H fp) ifs tc) (he: ∀ s H fp,PE (cxB X scope N s H fp) elt te)
  (hs: ∀ x,foldedSetIterable iter X.env x=pure x:=by intro _;rfl):PE X (.ListComp elt [⟨tg,iter,ifs,0⟩] scope pos) (zob wi g tc te src):=by
 intro pins s σ H Q I h
 rw [eval_ListComp]
 refine wpAny_comprehension_free (use:=none) rfl hs (zdE fun x hx e=>I.ok.has x.1 (B.free x hx e)) B.kind B.locs ?_
 refine thn (hi pins s σ H _ I h) fun v s1 h1=>thn h1 fun itv s2 h2=> ?_
 obtain ⟨it,fp,tn,J,H2,e,I2,T,st2,f2,hw⟩:=h2
 subst e
 refine ziN (RR:=fun acc C=>compPost (model X.prog X.w) X.A X.xe none (EP X pins σ Q) acc C) (Q:=fun D H'=>Q (.ref D) H') B hg ht he I2 T st2 f2 hw ?_
 intro D C H' s' m I' hn hC hCs hf q
 refine ⟨m,hn,fun h' hs'=>⟨.ref D,H',I'.letGo hn hf (qaE I2.sz hC) (fun z=> ?_) (fun p hp z=> ?_) hs',rfl,q⟩⟩
 ·exact qaA _ (qap (z▸I2.lt) hC)
 ·have:=qaC (I2.pin p hp).1
  rw [z] at this
  exact qaA _ (qap this hC)
theorem zj9 {wi:TI} {g:TG} {tc:TT} {te:TE} {i:Nat} {y:Str} {py spos:Pos} (B:BOk X scope N src) (hi:PI X tg iter wi)
  (hg: ∀ s H fp,PG (cxB X scope N s H fp) tg g) (ht: ∀ s H fp,PCs (cxB X scope N s H fp) ifs tc) (he: ∀ s H fp,PE (cxB X scope N s H fp) elt te)
  (hN:X.N.Nodup) (hy:X.N[i]? = some y) (hx:Loc X.env.scope y) (hsw:swapsWith (.ListComp elt [⟨tg,iter,ifs,0⟩] scope pos) (some (.Name y py)) spos.line X.env=pure true)
  (hf:X.fn y=true\/X.env.scope.names.lookup y=some .local:=by first | exact .inl rfl | exact .inr rfl | assumption)
  (hs: ∀ x,foldedSetIterable iter X.env x=pure x:=by intro _;rfl):PS X (.Assign [.Name y py] (.ListComp elt [⟨tg,iter,ifs,0⟩] scope pos) spos) (zuR (zob wi g tc te src) (zpG i)):=by
 intro pins s σ H D0 I h
 rw [exec_Assign_Name_used _ _ _ _ hsw]
 refine qaH (wpAny_standAt (qaH ?_))
 show wpAny _ X.A (do let _<-comprehension (.ListComp elt [⟨tg,iter,ifs,0⟩] scope pos) scope X.env _ (newList []) false (eval iter X.env) (some (assign (.Name y py) X.env))) _ _ s
 refine qaH (qaK (wpAny_comprehension_free (use:=some (assign (.Name y py) X.env)) (Q:=fun _ s'=>SP X pins D0 .next s') rfl hs (zdE fun x hx e=>I.ok.has x.1 (B.free x hx e)) B.kind B.locs ?_)
   (fun _ s' hq=>qaI (qaI hq)) fun _ _ e=>e)
 refine thn (hi pins s σ H _ I h) fun v s1 h1=>thn h1 fun itv s2 h2=> ?_
 obtain ⟨it,fp,tn,J,H2,e,I2,T,st2,f2,hw⟩:=h2
 subst e
 refine ziN (RR:=fun acc C=>compPost (model X.prog X.w) X.A X.xe (some (assign (.Name y py) X.env)) (fun _ s'=>SP X pins D0 .next s') acc C) (Q:=fun D H'=>D0.nx (σ.set i (some (.ref D))) H') B hg ht he I2 T st2 f2 hw ?_
 intro D C H' s' m I' hn hC hCs hf' q
 show wpAny _ X.A (assign (.Name y py) X.env (.ref D)) _ _ _
 have hCL:C≠X.env.locals:=fun z=>qaA _ (qap (z▸I2.lt) hC)
 have hCp: ∀ p∈X.pn++pins,p.1≠C:=fun p hp z=>by
  have:=qaC (I2.pin p hp).1
  rw [z] at this
  exact qaA _ (qap this hC)
 have hCc: ∀ x c,X.env.cells.lookup x=some c->c≠C:=fun x c e z=>by
  obtain ⟨v,hv⟩:=I2.cell x c e
  exact qaA _ (qap (z▸hv.lt) hC)
 obtain ⟨oC,es,ep,hoC,hdC,hrest⟩:=hn
 have hCfs:C∉X.fs:=I2.nofs hC
 have Ip:Inv X (pins++[(C,oC)]) σ H' s':=I'.pins_of fun p hp=>by
  rcases List.mem_append.mp hp with z | z
  ·exact I'.pin p (qah _ z)
  ·obtain rfl:p=(C,oC):=by simpa using z
   exact ⟨hoC,hf',hCL,hCfs,fun v z=>by have z':=hdC.symm.trans z;cases z'⟩
 refine wpAny_assign_Name (zeq Ip hN hy hx (v:= .ref D) rfl (fun s3 I3=> ?_) hf)
 have hC3:=(I3.pin (C,oC) (by simp)).1
 refine ⟨m,⟨oC,es,ep,hC3,hdC,hrest⟩,fun h' hs'=> ?_⟩
 exact ⟨_,H',(I3.unpinned).letGo ⟨oC,es,ep,hC3,hdC,hrest⟩ hf' (qaE I2.sz hC) hCL hCp hs',q⟩
end
end L2
namespace L3
open PySem PySem.Spec PyProof.Rows L2
inductive D where
 | non | bl (b:Bool) | int (i:Int) | str (x:Str) | tup (xs:List D) | lst (xs:List D) | cel (n:Nat) | set (xs:List Int) | dct | fn (a:Addr) | scr (xs:List D) | exn (c:String)
inductive C where
 | lst (xs:List D) | dic (kvs:List (Int×D)) | dead
noncomputable abbrev Hh:=List C
structure Io where
 c:List (Option Addr)
 x:List Addr
noncomputable def Io.Has (ι:Io) (a:Addr):Prop:=some a∈ι.c\/a∈ι.x
inductive R (α:Type) where
 | ok (a:α) (h:Hh) | exc (c:String) (h:Hh) | bad
noncomputable def M (α:Type):=Hh->R α
@[inline] noncomputable def M.bind {α β:Type} (m:M α) (f:α->M β):M β:=fun h=>match m h with
 | .ok a h'=>f a h'
 | .exc c h'=> .exc c h'
 | .bad=> .bad
@[inline] noncomputable def M.pure {α:Type} (a:α):M α:=fun h=> .ok a h
noncomputable instance:Monad M where
 pure:=M.pure
 bind:=M.bind
noncomputable def M.bad {α:Type}:M α:=fun _=> .bad
noncomputable def KL (K:W.Frag) (a:Addr) (xs:List V):Prop:=SqL K (fun _=>none) a xs
mutual
noncomputable def Rel (K:W.Frag) (ι:Io) (H:Hp):D->V->Prop
 | .non,v=>v= .non
 | .bl b,v=>v= .bl b
 | .int i,v=>v= .int i
 | .str x,v=>v= .str x
 | .tup ds,v=> ∃ a vs,v= .ref a/\(H a=some (.tup vs)/\ ¬ι.Has a)/\zal K ι H ds vs
 | .lst ds,v=> ∃ a vs,v= .ref a/\(H a=some (.lst vs)/\ ¬ι.Has a)/\zal K ι H ds vs
 | .scr ds,v=> ∃ a vs,v= .ref a/\((Rd H a (.lst vs)/\ ¬ι.Has a)\/KL K a vs)/\zal K ι H ds vs
 | .cel n,v=> ∃ a,v= .ref a/\(ι.c[n]? = some (some a)\/ι.c[n]? = some none)
 | .set xs,v=> ∃ a,v= .ref a/\H a=some (.set (fun k=>xs.any (· == k)) xs.length)/\ ¬ι.Has a
 | .dct,v=> ∃ a,v= .ref a/\H a=some (.dK [])/\ ¬ι.Has a
 | .fn a,v=>v= .ref a
 | .exn c,v=> ∃ a o C head vs,v= .ref a/\(H a=some (.frz o (.own 0))/\ ¬ι.Has a)/\W.nsIn K mainGlobals (c:Str)=some (some (.ref C))/\o.cls= .ref C/\o.dict=none/\o.data= .fields vs/\vs[2]? = some .none/\vs[1]? = some head
noncomputable def zal (K:W.Frag) (ι:Io) (H:Hp):List D->List V->Prop
 | [],vs=>vs=[]
 | d::ds,vs=> ∃ v r,vs=v::r/\Rel K ι H d v/\zal K ι H ds r
end
structure zbu (ι:Io) (H:Hp) (ι':Io) (H':Hp):Prop where
 old: ∀ (n:Nat) (o:Option Addr),ι.c[n]? = some o->ι'.c[n]? = some o\/ι'.c[n]? = some none
 new: ∀ a,some a∈ι'.c->some a∈ι.c\/H a=none
 hid:ι'.x=ι.x
 hidk: ∀ a∈ι.x,H' a=H a
 keep: ∀ b o,H b=some o-> ¬ι.Has b->H' b=some o
theorem zbu.refl (ι:Io) (H:Hp):zbu ι H ι H:=⟨fun _ _ h=> .inl h,fun _ h=> .inl h,rfl,fun _ _=>rfl,fun _ _ h _=>h⟩
theorem zbu.nin {ι ι':Io} {H H':Hp} (s:zbu ι H ι' H') {a:Addr} {o:HO} (h:H a=some o) (n: ¬ι.Has a): ¬ι'.Has a:=fun z=>by
 rcases z with z | z
 ·rcases s.new a z with z | z
  ·exact n (.inl z)
  ·rw [h] at z;cases z
 ·rw [s.hid] at z;exact n (.inr z)
theorem zbu.trans {ι ι1 ι2:Io} {H H1 H2:Hp} (s:zbu ι H ι1 H1) (t:zbu ι1 H1 ι2 H2):zbu ι H ι2 H2 where
 old:=fun n o h=>by
  rcases s.old n o h with h | h
  ·exact t.old n o h
  ·rcases t.old n _ h with h | h<;>exact .inr h
 new:=fun a h=>by
  rcases t.new a h with h | h
  ·exact s.new a h
  ·by_cases z:some a∈ι.c
   ·exact .inl z
   ·refine .inr ?_
    cases q:H a with
    | none=>rfl
    | some o=>
     by_cases z':a∈ι.x
     ·rw [s.hidk a z',q] at h;cases h
     ·rw [s.keep a o q (fun w=>w.elim z z')] at h;cases h
 hid:=t.hid.trans s.hid
 hidk:=fun a h=>(t.hidk a (by rw [s.hid];exact h)).trans (s.hidk a h)
 keep:=fun b o h n=>t.keep b o (s.keep b o h n) (s.nin h n)
theorem zbu.rd {ι ι':Io} {H H':Hp} (s:zbu ι H ι' H') {a:Addr} {u:HO} (h:Rd H a u) (n: ¬ι.Has a):Rd H' a u/\ ¬ι'.Has a:=by
 rcases h with h | ⟨o,h⟩
 ·exact ⟨.inl (s.keep _ _ h n),s.nin h n⟩
 ·exact ⟨.inr ⟨o,s.keep _ _ h n⟩,s.nin h n⟩
structure Pass (ι:Io) (H:Hp) (ι':Io) (H':Hp):Prop where
 old: ∀ (n:Nat) (o:Option Addr),ι.c[n]? = some o->ι'.c[n]? = some o\/ι'.c[n]? = some none
 keep: ∀ b o,H b=some o-> ¬ι.Has b->H' b=some o/\ ¬ι'.Has b
theorem zbu.pass {ι ι':Io} {H H':Hp} (s:zbu ι H ι' H'):Pass ι H ι' H':=⟨s.old,fun b o h n=>⟨s.keep b o h n,s.nin h n⟩⟩
theorem Pass.rd {ι ι':Io} {H H':Hp} (s:Pass ι H ι' H') {a:Addr} {u:HO} (h:Rd H a u) (n: ¬ι.Has a):Rd H' a u/\ ¬ι'.Has a:=by
 rcases h with h | ⟨o,h⟩
 ·exact ⟨.inl (s.keep _ _ h n).1,(s.keep _ _ h n).2⟩
 ·exact ⟨.inr ⟨o,(s.keep _ _ h n).1⟩,(s.keep _ _ h n).2⟩
section
variable {K:W.Frag} {ι ι':Io} {H H':Hp}
mutual
theorem Rel.pass (s:Pass ι H ι' H'): ∀ {d:D} {v:V},Rel K ι H d v->Rel K ι' H' d v
 | .non,_,h=>by simpa [Rel] using h
 | .bl _,_,h=>by simpa [Rel] using h
 | .int _,_,h=>by simpa [Rel] using h
 | .str _,_,h=>by simpa [Rel] using h
 | .tup ds,v,h=>by
  simp only [Rel] at h ⊢
  obtain ⟨a,vs,e,h1,h2⟩:=h
  exact ⟨a,vs,e,s.keep _ _ h1.1 h1.2,zal.pass s h2⟩
 | .lst ds,v,h=>by
  simp only [Rel] at h ⊢
  obtain ⟨a,vs,e,h1,h2⟩:=h
  exact ⟨a,vs,e,s.keep _ _ h1.1 h1.2,zal.pass s h2⟩
 | .scr ds,v,h=>by
  simp only [Rel] at h ⊢
  obtain ⟨a,vs,e,h1,h2⟩:=h
  exact ⟨a,vs,e,h1.imp (fun z=>s.rd z.1 z.2) id,zal.pass s h2⟩
 | .cel n,v,h=>by
  simp only [Rel] at h ⊢
  obtain ⟨a,e,h⟩:=h
  refine ⟨a,e,?_⟩
  rcases h with h | h
  ·exact s.old n _ h
  ·rcases s.old n _ h with h | h<;>exact .inr h
 | .set xs,v,h=>by
  simp only [Rel] at h ⊢
  obtain ⟨a,e,h,n⟩:=h
  exact ⟨a,e,(s.keep _ _ h n).1,(s.keep _ _ h n).2⟩
 | .dct,v,h=>by
  simp only [Rel] at h ⊢
  obtain ⟨a,e,h,n⟩:=h
  exact ⟨a,e,(s.keep _ _ h n).1,(s.keep _ _ h n).2⟩
 | .fn _,_,h=>by simpa [Rel] using h
 | .exn _,_,h=>by
  simp only [Rel] at h ⊢
  obtain ⟨a,o,C,head,vs,e,h1,h2⟩:=h
  exact ⟨a,o,C,head,vs,e,s.keep _ _ h1.1 h1.2,h2⟩
theorem zal.pass (s:Pass ι H ι' H'): ∀ {ds:List D} {vs:List V},zal K ι H ds vs->zal K ι' H' ds vs
 | [],_,h=>by simpa [zal] using h
 | d::ds,_,h=>by
  simp only [zal] at h ⊢
  obtain ⟨v,r,e,h1,h2⟩:=h
  exact ⟨v,r,e,Rel.pass s h1,zal.pass s h2⟩
end
theorem Rel.step (s:zbu ι H ι' H') {d:D} {v:V} (h:Rel K ι H d v):Rel K ι' H' d v:=h.pass s.pass
theorem zal.step (s:zbu ι H ι' H') {ds:List D} {vs:List V} (h:zal K ι H ds vs):zal K ι' H' ds vs:=h.pass s.pass
theorem zal.nil:zal K ι H [] []:=by simp [zal]
theorem zal.cons {d:D} {ds:List D} {v:V} {vs:List V} (h:Rel K ι H d v) (t:zal K ι H ds vs):zal K ι H (d::ds) (v::vs):=by simp only [zal];exact ⟨v,vs,rfl,h,t⟩
theorem zal.length: ∀ {ds:List D} {vs:List V},zal K ι H ds vs->ds.length=vs.length
 | [],_,h=>by simp only [zal] at h;subst h;rfl
 | d::ds,_,h=>by
  simp only [zal] at h
  obtain ⟨v,r,rfl,_,h⟩:=h
  simp [zal.length h]
theorem zal.get: ∀ {ds:List D} {vs:List V} {i:Nat} {d:D},zal K ι H ds vs->ds[i]? = some d-> ∃ v,vs[i]? = some v/\Rel K ι H d v
 | [],_,_,_,_,e=>by simp at e
 | d::ds,_,i,x,h,e=>by
  simp only [zal] at h
  obtain ⟨v,r,rfl,h1,h2⟩:=h
  cases i with
  | zero=>simp at e;subst e;exact ⟨v,rfl,h1⟩
  | succ i=>simp at e;simpa using zal.get h2 e
theorem zal.getV: ∀ {ds:List D} {vs:List V} {i:Nat} {v:V},zal K ι H ds vs->vs[i]? = some v-> ∃ d,ds[i]? = some d/\Rel K ι H d v
 | [],_,_,_,h,e=>by simp only [zal] at h;subst h;simp at e
 | d::ds,_,i,x,h,e=>by
  simp only [zal] at h
  obtain ⟨v,r,rfl,h1,h2⟩:=h
  cases i with
  | zero=>simp at e;subst e;exact ⟨d,rfl,h1⟩
  | succ i=>simp at e;simpa using zal.getV h2 e
theorem zal.append: ∀ {ds es:List D} {vs ws:List V},zal K ι H ds vs->zal K ι H es ws->zal K ι H (ds++es) (vs++ws)
 | [],_,_,_,h,t=>by simp only [zal] at h;subst h;exact t
 | d::ds,es,_,ws,h,t=>by
  simp only [zal] at h
  obtain ⟨v,r,rfl,h1,h2⟩:=h
  exact zal.cons h1 (zal.append h2 t)
theorem zal.take: ∀ {ds:List D} {vs:List V} (n:Nat),zal K ι H ds vs->zal K ι H (ds.take n) (vs.take n)
 | _,_,0,_=>by simpa using zal.nil
 | [],_,n+1,h=>by simp only [zal] at h;subst h;exact zal.nil
 | d::ds,_,n+1,h=>by
  simp only [zal] at h
  obtain ⟨v,r,rfl,h1,h2⟩:=h
  exact zal.cons h1 (zal.take n h2)
theorem zal.drop: ∀ {ds:List D} {vs:List V} (n:Nat),zal K ι H ds vs->zal K ι H (ds.drop n) (vs.drop n)
 | _,_,0,h=>h
 | [],_,n+1,h=>by simp only [zal] at h;subst h;exact zal.nil
 | d::ds,_,n+1,h=>by
  simp only [zal] at h
  obtain ⟨v,r,rfl,h1,h2⟩:=h
  exact zal.drop n h2
theorem zal.reverse {ds:List D} {vs:List V} (h:zal K ι H ds vs):zal K ι H ds.reverse vs.reverse:=by
 induction ds generalizing vs with
 | nil=>simp only [zal] at h;subst h;exact zal.nil
 | cons d ds ih=>
  simp only [zal] at h
  obtain ⟨v,r,rfl,h1,h2⟩:=h
  rw [List.reverse_cons,List.reverse_cons]
  exact zal.append (ih h2) (zal.cons h1 zal.nil)
theorem zal.set {d:D} {v:V} (hd:Rel K ι H d v): ∀ {ds:List D} {vs:List V} (i:Nat),zal K ι H ds vs->zal K ι H (ds.set i d) (vs.set i v)
 | [],_,_,h=>by simp only [zal] at h;subst h;exact zal.nil
 | x::ds,_,i,h=>by
  simp only [zal] at h
  obtain ⟨w,r,rfl,h1,h2⟩:=h
  cases i with
  | zero=>exact zal.cons hd h2
  | succ i=>exact zal.cons h1 (zal.set hd i h2)
theorem zcM: ∀ {is:List Int} {vs:List V},zal K ι H (is.map D.int) vs↔vs=is.map V.int
 | [],vs=>by simp [zal]
 | i::is,vs=>by
  simp only [qaz,zal]
  constructor
  ·rintro ⟨v,r,rfl,h1,h2⟩
   simp only [Rel] at h1
   rw [h1,zcM.mp h2]
  ·rintro rfl
   exact ⟨_,_,rfl,by simp [Rel],zcM.mpr rfl⟩
noncomputable def CO (K:W.Frag) (ι:Io) (H:Hp):C->HO->Prop
 | .lst ds,o=> ∃ vs,o= .lst vs/\zal K ι H ds vs
 | .dic kvs,o=> ∃ vs,o= .dK vs/\Paired (fun (p:Int×D) (q:Key×V)=>q.1= .inl p.1/\Rel K ι H p.2 q.2) kvs vs
 | .dead,_=>False
theorem CO.pass {c:C} {o:HO} (s:Pass ι H ι' H') (h:CO K ι H c o):CO K ι' H' c o:=by
 cases c with
 | lst ds=>obtain ⟨vs,e,r⟩:=h;exact ⟨vs,e,r.pass s⟩
 | dic kvs=>
  obtain ⟨vs,e,r⟩:=h
  refine ⟨vs,e,?_⟩
  clear e
  induction r with
  | nil=>exact .nil
  | cons a t ih=>exact .cons ⟨a.1,a.2.pass s⟩ ih
 | dead=>exact h
structure za1 (K:W.Frag) (ι:Io) (H:Hp) (h:Hh):Prop where
 len:h.length=ι.c.length
 inj: ∀ (m n:Nat) (a:Addr),ι.c[m]? = some (some a)->ι.c[n]? = some (some a)->m=n
 at_: ∀ (n:Nat) (a:Addr) (c:C),ι.c[n]? = some (some a)->h[n]? = some c-> ∃ o,H a=some o/\CO K ι H c o
 dead: ∀ (n:Nat),ι.c[n]? = some none->h[n]? = some .dead
 hidt: ∀ a∈ι.x,(∃ o,H a=some o)/\some a∉ι.c
noncomputable abbrev Sd:=List (Option D)
noncomputable def zbZ (K:W.Frag) (ι:Io) (H:Hp) (sd:Sd) (σ:L2.St):Prop:=sd.length=σ.length/\ ∀ (i:Nat) (d:D),sd[i]? = some (some d)-> ∃ v,σ[i]? = some (some v)/\Rel K ι H d v
theorem zbZ.pass {sd:Sd} {σ:L2.St} (s:Pass ι H ι' H') (h:zbZ K ι H sd σ):zbZ K ι' H' sd σ:=⟨h.1,fun i d e=>let ⟨v,h1,h2⟩:=h.2 i d e;⟨v,h1,h2.pass s⟩⟩
theorem zbZ.step {sd:Sd} {σ:L2.St} (s:zbu ι H ι' H') (h:zbZ K ι H sd σ):zbZ K ι' H' sd σ:=⟨h.1,fun i d e=>let ⟨v,h1,h2⟩:=h.2 i d e;⟨v,h1,h2.step s⟩⟩
theorem zbZ.set {sd:Sd} {σ:L2.St} {d:D} {v:V} (h:zbZ K ι H sd σ) (r:Rel K ι H d v) (i:Nat):zbZ K ι H (sd.set i (some d)) (σ.set i (some v)):=by
 refine ⟨by rw [qay,qay];exact h.1,fun j d' e=> ?_⟩
 by_cases hij:i=j
 ·subst hij
  by_cases hl:i<sd.length
  ·rw [qaf hl] at e
   cases e
   exact ⟨v,by rw [qaf (by rw [<- h.1];exact hl)],r⟩
  ·rw [List.getElem?_eq_none (by rw [qay];omega)] at e
   cases e
 ·rw [qak hij] at e ⊢
  exact h.2 j d' e
theorem zbZ.skip {sd:Sd} {σ:L2.St} {o:Option V} (h:zbZ K ι H sd σ) (i:Nat) (hn:sd[i]? = some none):zbZ K ι H sd (σ.set i o):=by
 refine ⟨by rw [qay];exact h.1,fun j d' e=> ?_⟩
 by_cases hij:i=j
 ·subst hij;rw [hn] at e;cases e
 ·rw [qak hij];exact h.2 j d' e
end
noncomputable abbrev St:=L2.St
noncomputable abbrev XE:=String->Hp->Prop
noncomputable def Fin {α:Type} (K:W.Frag) (E:XE) (ι:Io) (H:Hp) (r:R α) (P:α->Io->Hp->Prop):Prop:=match r with
 | .ok a h'=> ∀ ι' H',zbu ι H ι' H'->za1 K ι' H' h'->P a ι' H'
 | .exc c h'=> ∀ ι' H',zbu ι H ι' H'->za1 K ι' H' h'->E c H'
 | .bad=>False
section
variable {α β:Type} {K:W.Frag} {E:XE} {ι ι':Io} {H H':Hp}
theorem Fin.step {r:R α} {P:α->Io->Hp->Prop} (s:zbu ι H ι' H') (h:Fin K E ι H r P):Fin K E ι' H' r P:=by
 cases r with
 | ok a h'=>exact fun ι2 H2 t hr=>h ι2 H2 (s.trans t) hr
 | exc c h'=>exact fun ι2 H2 t hr=>h ι2 H2 (s.trans t) hr
 | bad=>exact h
theorem Fin.mono {r:R α} {P P':α->Io->Hp->Prop} (h:Fin K E ι H r P) (m: ∀ a ι' H',P a ι' H'->P' a ι' H'):Fin K E ι H r P':=by
 cases r with
 | ok a h'=>exact fun ι2 H2 t hr=>m _ _ _ (h ι2 H2 t hr)
 | exc c h'=>exact h
 | bad=>exact h
theorem Fin.bind {m:M α} {f:α->M β} {h:Hh} {P:β->Io->Hp->Prop} {P':α->Io->Hp->Prop} (q:Fin K E ι H ((m>>=f) h) P)
  (k: ∀ a h' ι' H',m h= .ok a h'->zbu ι H ι' H'->za1 K ι' H' h'->Fin K E ι' H' (f a h') P->P' a ι' H'):Fin K E ι H (m h) P':=by
 have q':Fin K E ι H (M.bind m f h) P:=q
 unfold M.bind at q'
 cases e:m h with
 | ok a h'=>
  rw [e] at q'
  intro ι' H' s hr
  exact k a h' ι' H' e s hr (Fin.step s q')
 | exc c h'=>rw [e] at q';exact q'
 | bad=>rw [e] at q';exact q'
theorem Fin.out {a:α} {h:Hh} {P:α->Io->Hp->Prop} (hr:za1 K ι H h) (q:Fin K E ι H ((pure a:M α) h) P):P a ι H:=q ι H (zbu.refl _ _) hr
end
noncomputable def zhU (K:W.Frag) (E:XE) (f:Sd->M D):TE:=fun σ H Q=> ∃ ι h sd,zbZ K ι H sd σ/\za1 K ι H h/\Fin K E ι H (f sd h) fun d ι' H'=> ∀ v,Rel K ι' H' d v->Q v H'
noncomputable def zia (K:W.Frag) (E:XE) (f:Sd->M Bool):TT:=fun σ H Q=> ∃ ι h sd,zbZ K ι H sd σ/\za1 K ι H h/\Fin K E ι H (f sd h) fun b ι' H'=>Q b H'
noncomputable def zvH (K:W.Frag) (E:XE) (f:Sd->M (List D)):TA:=fun σ H Q=> ∃ ι h sd,zbZ K ι H sd σ/\za1 K ι H h/\Fin K E ι H (f sd h) fun ds ι' H'=> ∀ vs,zal K ι' H' ds vs->Q vs H'
noncomputable abbrev SE (X:Cx) (E:XE) (e:Expr) (f:Sd->M D):Prop:=PE X e (zhU X.K E f)
noncomputable abbrev ST (X:Cx) (E:XE) (e:Expr) (f:Sd->M Bool):Prop:=PT X e (zia X.K E f)
noncomputable abbrev SA (X:Cx) (E:XE) (es:List Expr) (f:Sd->M (List D)):Prop:=PA X es (zvH X.K E f)
noncomputable def zcT (K:W.Frag) (E:XE) (F:D->D->M D):R2:=fun x y H Q=> ∃ ι h d1 d2,Rel K ι H d1 x/\Rel K ι H d2 y/\za1 K ι H h/\Fin K E ι H (F d1 d2 h) fun d ι' H'=> ∀ v,Rel K ι' H' d v->Q v H'
noncomputable def zhD (K:W.Frag) (E:XE) (F:List D->M D):List V->Hp->VK->Prop:=fun xs H Q=> ∃ ι h ds,zal K ι H ds xs/\za1 K ι H h/\Fin K E ι H (F ds h) fun d ι' H'=> ∀ v,Rel K ι' H' d v->Q v H'
theorem PE.imp {X:Cx} {e:Expr} {t t':TE} (h:PE X e t) (m: ∀ σ H Q,t' σ H Q->t σ H Q):PE X e t':=fun pins s σ H Q I q=>h pins s σ H Q I (m _ _ _ q)
theorem PT.imp {X:Cx} {e:Expr} {t t':TT} (h:PT X e t) (m: ∀ σ H Q,t' σ H Q->t σ H Q):PT X e t':=fun pins s σ H Q I q=>h pins s σ H Q I (m _ _ _ q)
theorem PA.imp {X:Cx} {e:List Expr} {t t':TA} (h:PA X e t) (m: ∀ σ H Q,t' σ H Q->t σ H Q):PA X e t':=fun pos pins s σ H Q I q=>h pos pins s σ H Q I (m _ _ _ q)
theorem OpR.imp {X:Cx} {f:Value->Value->Sem Value} {r r':R2} (h:OpR X f r) (m: ∀ x y H Q,r' x y H Q->r x y H Q):OpR X f r':=fun pins s σ H x y v u Q I rx ry q=>h pins s σ H x y v u Q I rx ry (m _ _ _ _ q)
theorem zay.imp {X:Cx} {f:Value} {r r':List V->Hp->VK->Prop} (h:zay X f r) (m: ∀ xs H Q,r' xs H Q->r xs H Q):zay X f r':=by
 intro pins s σ H xs us Q I rx q
 exact h pins s σ H xs us Q I rx (m _ _ _ q)
theorem IxR.imp {X:Cx} {r r':R2} (h:IxR X r) (m: ∀ x y H Q,r' x y H Q->r x y H Q):IxR X r':=by
 intro value slice pins s σ H x y v u Q I rx ry q hs
 exact h value slice pins s σ H x y v u Q I rx ry (m _ _ _ _ q) hs
theorem MtM.imp {X:Cx} {id:String} {r r':V->List V->Hp->VK->Prop} (h:MtM X id r) (m: ∀ x xs H Q,r' x xs H Q->r x xs H Q):MtM X id r':=fun pins s σ H x xs v us Q I rx rs q=>h pins s σ H x xs v us Q I rx rs (m _ _ _ _ q)
theorem SlR.imp {X:Cx} {r r':V->Option Int->Option Int->Hp->VK->Prop} (h:SlR X r) (m: ∀ x l u H Q,r' x l u H Q->r x l u H Q):SlR X r':=fun pins s σ H x v vl vu lo hi sl Q I rx hs pl pu q=>h pins s σ H x v vl vu lo hi sl Q I rx hs pl pu (m _ _ _ _ _ q)
theorem zqa.imp {X:Cx} {r r':ztu} (h:zqa X r) (m: ∀ o i v H Q,r' o i v H Q->r o i v H Q):zqa X r':=fun pins s σ H o i v ov iv u Q I ro ri rv q=>h pins s σ H o i v ov iv u Q I ro ri rv (m _ _ _ _ _ q)
theorem PI.imp {X:Cx} {tg iter:Expr} {t t':TI} (h:PI X tg iter t) (m: ∀ σ H Q,t' σ H Q->t σ H Q):PI X tg iter t':=fun pins s σ H Q I q=>h pins s σ H Q I (m _ _ _ q)
theorem PG.imp {X:Cx} {tg:Expr} {t t':TG} (h:PG X tg t) (m: ∀ v σ H Q,t' v σ H Q->t v σ H Q):PG X tg t':=fun pins s σ H v u Q I r q=>h pins s σ H v u Q I r (m _ _ _ _ q)
theorem PS.imp {X:Cx} {st:Stmt} {t t':TS} (h:PS X st t) (m: ∀ D σ H,t' D σ H->t D σ H):PS X st t':=fun pins s σ H D I q=>h pins s σ H D I (m _ _ _ q)
theorem PSs.imp {X:Cx} {st:List Stmt} {t t':TS} (h:PSs X st t) (m: ∀ D σ H,t' D σ H->t D σ H):PSs X st t':=fun pins s σ H D I q=>h pins s σ H D I (m _ _ _ q)
section
variable {X:Cx} {E:XE} {a b e:Expr} {es:List Expr} {pos:Pos} {fa fb:Sd->M D}
theorem te2 {K:W.Frag} {F:D->D->M D} {r:R2} (hr: ∀ x y H Q,zcT K E F x y H Q->r x y H Q) (σ:St) (H:Hp) (Q:VK) (q:zhU K E (fun sd=>do let x<-fa sd;let y<-fb sd;F x y) σ H Q):tOp r (zhU K E fa) (zhU K E fb) σ H Q:=by
 obtain ⟨ι,h,sd,L,hh,q⟩:=q
 refine ⟨ι,h,sd,L,hh,Fin.bind q fun d1 h1 ι1 H1 e1 s1 hr1 q1 v r1=> ?_⟩
 refine ⟨ι1,h1,sd,L.step s1,hr1,Fin.bind q1 fun d2 h2 ι2 H2 e2 s2 hr2 q2 w r2=> ?_⟩
 exact hr _ _ _ _ ⟨ι2,h2,d1,d2,r1.step s2,r2,hr2,q2⟩
theorem zuC {op:Operator} {F:D->D->M D} (ho:OpR X (binaryOp op) (zcT X.K E F)) (ha:SE X E a fa) (hb:SE X E b fb):SE X E (.BinOp a op b pos) (fun sd=>do let x<-fa sd;let y<-fb sd;F x y):=
 PE.imp (zu7 ho ha hb) (te2 fun _ _ _ _ q=>q)
theorem zru {op:CmpOp} {F:D->D->M D} (ho:OpR X (compareOp op) (zcT X.K E F)) (ha:SE X E a fa) (hb:SE X E b fb) (hm:behindInMarks op b=false):SE X E (.Compare a [op] [b] pos) (fun sd=>do let x<-fa sd;let y<-fb sd;F x y):=
 PE.imp (zo9 ho ha hb hm) (te2 fun _ _ _ _ q=>q)
theorem ztI {F:D->D->M D} (ho:IxR X (zcT X.K E F)) (ha:SE X E a fa) (hb:SE X E b fb) (hs:zhY b):SE X E (.Subscript a b pos) (fun sd=>do let x<-fa sd;let y<-fb sd;F x y):=
 PE.imp (ztK ho ha hb hs) (te2 fun _ _ _ _ q=>q)
noncomputable def zc0:D->M Bool
 | .bl b=>pure b
 | _=>M.bad
theorem zgn {K:W.Frag} {f:Sd->M D} (σ:St) (H:Hp) (Q:Bool->Hp->Prop) (q:zia K E (fun sd=>do let x<-f sd;zc0 x) σ H Q):(zhU K E f) σ H fun x H1=> ∃ c,x= .bl c/\Q c H1:=by
 obtain ⟨ι,h,sd,L,hh,q⟩:=q
 refine ⟨ι,h,sd,L,hh,Fin.bind q fun d1 h1 ι1 H1 e1 s1 hr1 q2 v r1=> ?_⟩
 cases d1 with
 | bl b=>simp only [Rel] at r1;exact ⟨b,r1,Fin.out hr1 q2⟩
 | _=>exact False.elim q2
theorem ztf {op:CmpOp} {F:D->D->M D} (ho:OpR X (compareOp op) (zcT X.K E F)) (ha:SE X E a fa) (hb:SE X E b fb) (hm:behindInMarks op b=false):
  ST X E (.Compare a [op] [b] pos) (fun sd=>do let z<-(do let x<-fa sd;let y<-fb sd;F x y);zc0 z):=by
 refine PT.imp (zp3 ho ha hb hm) fun σ H Q q=> ?_
 have q1:=zgn (f:=fun sd=>do let x<-fa sd;let y<-fb sd;F x y) σ H Q q
 exact te2 (fun _ _ _ _ q=>q) σ H _ q1
theorem zsD {f:Sd->M D} (h:SE X E e f) (he: ∀ whole,isTrue e X.env whole=(do let v<-whole;standAt e.pos;holding [v] (truthy v)):=by intro _;rfl):ST X E e (fun sd=>do let x<-f sd;zc0 x):=
 PT.imp (zsi h he) fun σ H Q q=>zgn σ H Q q
theorem zsK {t:Sd->M Bool} (ha:ST X E a t):ST X E (.UnaryOp .Not a pos) (fun sd=>do let c<-t sd;pure (!c)):=by
 refine PT.imp (zrE ha) fun σ H Q ⟨ι,h,sd,L,hh,q⟩=>⟨ι,h,sd,L,hh,Fin.bind q fun c h1 ι1 H1 e1 s1 hr1 q1=> ?_⟩
 exact Fin.out hr1 q1
theorem zsG {t:Sd->M Bool} (ha:ST X E a t):PW X (.BoolOp .Or [a] pos) (zia X.K E t):=pw_or1 ha
theorem PW.imp {t t':TT} (h:PW X e t) (m: ∀ σ H Q,t' σ H Q->t σ H Q):PW X e t':=fun whole pins s σ H Q I q=>h whole pins s σ H Q I (m _ _ _ q)
theorem zvl {rest:List Expr} {t u:Sd->M Bool} (ha:ST X E a t) (hb:PW X (.BoolOp .Or (b::rest) pos) (zia X.K E u)):PW X (.BoolOp .Or (a::b::rest) pos) (zia X.K E fun sd=>do let c<-t sd;if c=true then pure true else u sd):=by
 refine PW.imp (pw_or ha hb) fun σ H Q ⟨ι,h,sd,L,hh,q⟩=>⟨ι,h,sd,L,hh,Fin.bind q fun c h1 ι1 H1 e1 s1 hr1 q1=> ?_⟩
 cases c with
 | false=>exact zq3 ⟨ι1,h1,sd,L.step s1,hr1,q1⟩
 | true=>exact zq1 (Fin.out hr1 q1)
theorem zpR {op:BoolOp} {vs:List Expr} {t:Sd->M Bool} (h:PW X (.BoolOp op vs pos) (zia X.K E t)):ST X E (.BoolOp op vs pos) t:=h.pt
theorem zsS {op:BoolOp} (h:SE X E a fa):SE X E (.BoolOp op [a] pos) fa:=zrS h
theorem zsM {rest:List Expr} (ha:SE X E a fa) (hb:SE X E (.BoolOp .And (b::rest) pos) fb):SE X E (.BoolOp .And (a::b::rest) pos) (fun sd=>do let c<-(do let x<-fa sd;zc0 x);if c=true then fb sd else pure (.bl false)):=by
 refine PE.imp (zsy ha hb) fun σ H Q ⟨ι,h,sd,L,hh,q⟩=> ?_
 have q1:=zgn (K:=X.K) (E:=E) (f:=fa) σ H (fun c H1=>if c=true then zhU X.K E fb σ H1 Q else Q (.bl false) H1) ⟨ι,h,sd,L,hh,Fin.bind q fun c h1 ι1 H1 e1 s1 hr1 q1=> ?_⟩
 ·exact q1
 ·cases c with
  | true=>exact zq1 ⟨ι1,h1,sd,L.step s1,hr1,q1⟩
  | false=>exact zq3 (Fin.out hr1 q1 _ (by simp [Rel]))
theorem zrl (ha:SE X E a fa):SE X E (.UnaryOp .Not a pos) (fun sd=>do let c<-(do let x<-fa sd;zc0 x);pure (.bl (!c))):=by
 refine PE.imp (zsx ha) fun σ H Q ⟨ι,h,sd,L,hh,q⟩=> ?_
 have q1:=zgn (K:=X.K) (E:=E) (f:=fa) σ H (fun c H1=>Q (.bl (!c)) H1) ⟨ι,h,sd,L,hh,Fin.bind q fun c h1 ι1 H1 e1 s1 hr1 q1=> ?_⟩
 ·exact q1
 ·exact Fin.out hr1 q1 _ (by simp [Rel])
theorem znu {c:Expr} {t:Sd->M Bool} (hc:ST X E c t) (ha:SE X E a fa) (hb:SE X E b fb):SE X E (.IfExp c a b pos) (fun sd=>do let c<-t sd;if c=true then fa sd else fb sd):=by
 refine PE.imp (znK hc ha hb) fun σ H Q ⟨ι,h,sd,L,hh,q⟩=>⟨ι,h,sd,L,hh,Fin.bind q fun c h1 ι1 H1 e1 s1 hr1 q1=> ?_⟩
 cases c with
 | true=>exact zq1 ⟨ι1,h1,sd,L.step s1,hr1,q1⟩
 | false=>exact zq3 ⟨ι1,h1,sd,L.step s1,hr1,q1⟩
noncomputable def zag (i:Nat):Sd->M D:=fun sd=>match sd[i]? with
 | some (some d)=>pure d
 | _=>M.bad
theorem zr4 (i:Nat) {x:Str} (hN:X.N[i]? = some x) (hv:Vis X.env.scope x) (hd:(x==("__debug__":Str))=false:=by decide) (hcd:(x==("__classdict__":Str))=false:=by decide):SE X E (.Name x pos) (zag i):=by
 refine PE.imp (zoO hN hv hd hcd) fun σ H Q ⟨ι,h,sd,L,hh,q⟩=> ?_
 unfold zag at q
 cases e:sd[i]? with
 | none=>rw [e] at q;exact False.elim q
 | some o=>
  rw [e] at q
  cases o with
  | none=>exact False.elim q
  | some d=>
   obtain ⟨v,e1,r⟩:=L.2 i d e
   exact ⟨v,e1,Fin.out hh q v r⟩
theorem zex {K:W.Frag} {d:D} {v:V} (r: ∀ ι H,Rel K ι H d v) (σ:St) (H:Hp) (Q:VK) (q:zhU K E (fun _=>pure d) σ H Q):tC v σ H Q:=by
 obtain ⟨ι,h,sd,L,hh,q⟩:=q
 exact Fin.out hh q v (r _ _)
theorem zrL {i:Int} {j:Nat}:SE X E (.Constant (.int i) j pos) (fun _=>pure (.int i)):=PE.imp zsE (zex fun _ _=>by simp [Rel])
theorem zuG {i:Bool} {j:Nat}:SE X E (.Constant (.bool i) j pos) (fun _=>pure (.bl i)):=PE.imp zrO (zex fun _ _=>by simp [Rel])
theorem zrG {j:Nat}:SE X E (.Constant .none j pos) (fun _=>pure .non):=PE.imp zrc (zex fun _ _=>by simp [Rel])
theorem zsA {i:Str} {j:Nat}:SE X E (.Constant (.str i) j pos) (fun _=>pure (.str i)):=PE.imp zoF (zex fun _ _=>by simp [Rel])
theorem zss:SA X E [] (fun _=>pure []):=PA.imp zdc fun σ H Q ⟨ι,h,sd,L,hh,q⟩=>Fin.out hh q [] zal.nil
theorem zp6 {fs:Sd->M (List D)} (ha:SE X E e fa) (hr:SA X E es fs) (hs:starEach (e::es) X.env=(false,eval e X.env)::starEach es X.env:=by rfl):SA X E (e::es) (fun sd=>do let x<-fa sd;let r<-fs sd;pure (x::r)):=by
 refine PA.imp (zbK ha hr hs) fun σ H Q ⟨ι,h,sd,L,hh,q⟩=>⟨ι,h,sd,L,hh,Fin.bind q fun d h1 ι1 H1 e1 s1 hr1 q1 v rv=> ?_⟩
 refine ⟨ι1,h1,sd,L.step s1,hr1,Fin.bind q1 fun ds h2 ι2 H2 e2 s2 hr2 q2 vs rvs=> ?_⟩
 exact Fin.out hr2 q2 _ (zal.cons (rv.step s2) rvs)
end
theorem za1.nin {K:W.Frag} {ι:Io} {H:Hp} {h:Hh} (hr:za1 K ι H h) {p:Addr} (hp:H p=none): ¬ι.Has p:=fun z=>by
 rcases z with z | z
 ·obtain ⟨n,hn⟩:=List.mem_iff_getElem?.mp z
  have hl:n<h.length:=by rw [hr.len];exact (qab.mp hn).1
  obtain ⟨o,e,_⟩:=hr.at_ n p h[n] hn (by simp [hl])
  rw [hp] at e
  cases e
 ·obtain ⟨⟨o,e⟩,_⟩:=hr.hidt p z
  rw [hp] at e
  cases e
theorem za1.laidS {K:W.Frag} {ι:Io} {H:Hp} {h:Hh} (hr:za1 K ι H h) {p:Addr} {o:HO} (hp:H p=none):zbu ι H ι (upd H p o):=
 ⟨fun _ _ h=> .inl h,fun _ h=> .inl h,rfl,fun a ha=>zau fun z=>hr.nin hp (.inr (z▸ha)),fun b o' h _=>by rw [zau (zaG h hp)];exact h⟩
theorem za1.laid {K:W.Frag} {ι:Io} {H:Hp} {h:Hh} {p:Addr} {o:HO} (hr:za1 K ι H h) (hp:H p=none):za1 K ι (upd H p o) h:=
 ⟨hr.len,hr.inj,fun n a c hn hc=>by
   obtain ⟨o',e2,e3⟩:=hr.at_ n a c hn hc
   exact ⟨o',by rw [zau (zaG e2 hp)];exact e2,e3.pass (hr.laidS hp).pass⟩,hr.dead,fun a ha=>⟨by rw [zau (show a≠p from fun z=>hr.nin hp (.inr (z▸ha)))];exact (hr.hidt a ha).1,(hr.hidt a ha).2⟩⟩
noncomputable def fits (n:Nat):M Unit:=if n<=sizeLine then pure () else M.bad
theorem Fin.fits {α:Type} {K:W.Frag} {E:XE} {ι:Io} {H:Hp} {n:Nat} {f:M α} {h:Hh} {P:α->Io->Hp->Prop} (q:Fin K E ι H ((do L3.fits n;f) h) P):n<=sizeLine/\Fin K E ι H (f h) P:=by
 have q':Fin K E ι H (M.bind (L3.fits n) (fun _=>f) h) P:=q
 unfold M.bind L3.fits at q'
 by_cases hn:n<=sizeLine
 ·rw [if_pos hn] at q'
  exact ⟨hn,q'⟩
 ·rw [if_neg hn] at q'
  exact False.elim q'
section
variable {X:Cx} {E:XE} {es:List Expr} {pos:Pos} {fs:Sd->M (List D)}
theorem zqS {K:W.Frag} {ι:Io} {H:Hp} {h:Hh} {ds:List D} {vs:List V} {Q:VK} (hr:za1 K ι H h) (rl:zal K ι H ds vs) (q:Fin K E ι H ((pure (.tup ds):M D) h) fun d ι' H'=> ∀ v,Rel K ι' H' d v->Q v H') {p:Addr} (hp:H p=none):Q (.ref p) (upd H p (.tup vs)):=
 q ι _ (hr.laidS hp) (hr.laid hp) _ (by
   simp only [Rel]
   exact ⟨p,vs,rfl,⟨zaL,hr.nin hp⟩,rl.step (hr.laidS hp)⟩)
theorem zqI {K:W.Frag} {ι:Io} {H:Hp} {h:Hh} {ds:List D} {vs:List V} {Q:VK} (hr:za1 K ι H h) (rl:zal K ι H ds vs) (q:Fin K E ι H ((pure (.lst ds):M D) h) fun d ι' H'=> ∀ v,Rel K ι' H' d v->Q v H') {p:Addr} (hp:H p=none):Q (.ref p) (upd H p (.lst vs)):=
 q ι _ (hr.laidS hp) (hr.laid hp) _ (by
   simp only [Rel]
   exact ⟨p,vs,rfl,⟨zaL,hr.nin hp⟩,rl.step (hr.laidS hp)⟩)
noncomputable def za2 (ds:List D):M D:=fun h=> .ok (.cel h.length) (h++[.lst ds])
theorem zsa {K:W.Frag} {ι:Io} {H:Hp} {h:Hh} {c0:C} {o0:HO} {Q:VK} (hr:za1 K ι H h) (co:CO K ι H c0 o0) (q:Fin K E ι H (.ok (.cel h.length) (h++[c0])) fun d ι' H'=> ∀ v,Rel K ι' H' d v->Q v H') {p:Addr} (hp:H p=none):Q (.ref p) (upd H p o0):=by
 have hlen:=hr.len
 have nh:=hr.nin hp
 have st:zbu ι H ⟨ι.c++[some p],ι.x⟩ (upd H p o0):=by
  refine ⟨fun n o h=> .inl ?_,fun a h=> ?_,rfl,fun a ha=>zau fun z=>nh (.inr (z▸ha)),fun b o' h _=>by rw [zau (zaG h hp)];exact h⟩
  ·show (ι.c++[some p])[n]? = _
   rw [qac (qab.mp h).1];exact h
  ·rcases List.mem_append.mp h with h | h
   ·exact .inl h
   ·simp at h;subst h;exact .inr hp
 have at_: ∀ (n:Nat) (a:Addr),(ι.c++[some p])[n]? = some (some a)->(ι.c[n]? = some (some a))\/(n=ι.c.length/\a=p):=fun n a h=>by
  by_cases hl:n<ι.c.length
  ·rw [qac hl] at h;exact .inl h
  ·rw [qaa (by omega)] at h
   have:n - ι.c.length=0:=by
    cases z:n - ι.c.length with
    | zero=>rfl
    | succ k=>rw [z] at h;simp at h
   rw [this] at h
   simp at h
   exact .inr ⟨by omega,h.symm⟩
 refine q _ _ st ⟨?_,fun m n a h1 h2=> ?_,fun n a c h1 h2=> ?_,fun n h1=> ?_,fun a ha=>⟨?_,fun z=> ?_⟩⟩ _ ?_
 ·show (h++[c0]).length=(ι.c++[some p]).length
  rw [qao,qao,hlen];rfl
 ·rcases at_ m a h1 with z1 | ⟨z1,z1'⟩<;>rcases at_ n a h2 with z2 | ⟨z2,z2'⟩
  ·exact hr.inj m n a z1 z2
  ·subst z2';exact absurd (.inl (List.mem_of_getElem? z1)) nh
  ·subst z1';exact absurd (.inl (List.mem_of_getElem? z2)) nh
  ·rw [z1,z2]
 ·rcases at_ n a h1 with z1 | ⟨z1,z1'⟩
  ·rw [qac (by rw [hlen];exact (qab.mp z1).1)] at h2
   obtain ⟨o',e2,e3⟩:=hr.at_ n a c z1 h2
   exact ⟨o',by rw [zau (zaG e2 hp)];exact e2,e3.pass st.pass⟩
  ·subst z1 z1'
   rw [<- hlen,qaa (qaG _)] at h2
   simp at h2
   subst h2
   exact ⟨o0,zaL,co.pass st.pass⟩
 ·have h1:(ι.c++[some p])[n]? = some none:=h1
  by_cases hl:n<ι.c.length
  ·rw [qac hl] at h1
   rw [qac (by rw [hlen];exact hl)]
   exact hr.dead n h1
  ·rw [qaa (by omega)] at h1
   cases z:n - ι.c.length with
   | zero=>rw [z] at h1;simp at h1
   | succ k=>rw [z] at h1;simp at h1
 ·rw [zau (show a≠p from fun z=>nh (.inr (z▸ha)))]
  exact (hr.hidt a ha).1
 ·rcases List.mem_append.mp z with z | z
  ·exact (hr.hidt a ha).2 z
  ·simp at z;subst z;exact nh (.inr ha)
 ·simp only [Rel]
  refine ⟨p,rfl,.inl ?_⟩
  show (ι.c++[some p])[h.length]? = _
  rw [hlen,qaa (qaG _)]
  simp
theorem zvL {K:W.Frag} {ι:Io} {H:Hp} {h:Hh} {ds:List D} {vs:List V} {Q:VK} (hr:za1 K ι H h) (rl:zal K ι H ds vs) (q:Fin K E ι H (za2 ds h) fun d ι' H'=> ∀ v,Rel K ι' H' d v->Q v H') {p:Addr} (hp:H p=none):Q (.ref p) (upd H p (.lst vs)):=
 zsa hr (c0:= .lst ds) ⟨vs,rfl,rl⟩ q hp
theorem ztg {x1} (h:SA X E es fs):SE X E (.Tuple es x1 pos) (fun sd=>do let ds<-fs sd;fits ds.length;pure (.tup ds)):=by
 refine PE.imp (zrg h) fun σ H Q ⟨ι,h,sd,L,hh,q⟩=>⟨ι,h,sd,L,hh,Fin.bind q fun ds h1 ι1 H1 e1 s1 hr1 q1 vs rvs=> ?_⟩
 obtain ⟨z,q2⟩:=Fin.fits q1
 exact ⟨by rw [<- rvs.length];exact z,fun p hp=>zqS hr1 rvs q2 hp⟩
theorem zrW (h:SA X E es fs):SE X E (.List es pos) (fun sd=>do let ds<-fs sd;fits ds.length;pure (.lst ds)):=by
 refine PE.imp (zon h) fun σ H Q ⟨ι,h,sd,L,hh,q⟩=>⟨ι,h,sd,L,hh,Fin.bind q fun ds h1 ι1 H1 e1 s1 hr1 q1 vs rvs=> ?_⟩
 obtain ⟨z,q2⟩:=Fin.fits q1
 exact ⟨by rw [<- rvs.length];exact z,fun p hp=>zqI hr1 rvs q2 hp⟩
theorem zpe (h:SA X E es fs):SE X E (.List es pos) (fun sd=>do let ds<-fs sd;fits ds.length;za2 ds):=by
 refine PE.imp (zon h) fun σ H Q ⟨ι,h,sd,L,hh,q⟩=>⟨ι,h,sd,L,hh,Fin.bind q fun ds h1 ι1 H1 e1 s1 hr1 q1 vs rvs=> ?_⟩
 obtain ⟨z,q2⟩:=Fin.fits q1
 exact ⟨by rw [<- rvs.length];exact z,fun p hp=>zvL hr1 rvs q2 hp⟩
end
inductive Out where
 | nx (sd:Sd) | rt (d:D) | bk (sd:Sd) | ct (sd:Sd)
noncomputable def zjT (K:W.Frag) (D0:zoo):Out->Io->Hp->Prop
 | .nx sd',ι',H'=> ∀ σ',zbZ K ι' H' sd' σ'->D0.nx σ' H'
 | .rt d,ι',H'=> ∀ v,Rel K ι' H' d v->D0.rt v H'
 | .bk sd',ι',H'=> ∀ σ',zbZ K ι' H' sd' σ'->D0.bk σ' H'
 | .ct sd',ι',H'=> ∀ σ',zbZ K ι' H' sd' σ'->D0.ct σ' H'
noncomputable def zvw (K:W.Frag) (E:XE) (G:Sd->M Out):TS:=fun D0 σ H=> ∃ ι h sd,zbZ K ι H sd σ/\za1 K ι H h/\Fin K E ι H (G sd h) (zjT K D0)
noncomputable abbrev SS (X:Cx) (E:XE) (st:Stmt) (G:Sd->M Out):Prop:=PS X st (zvw X.K E G)
noncomputable abbrev SSs (X:Cx) (E:XE) (st:List Stmt) (G:Sd->M Out):Prop:=PSs X st (zvw X.K E G)
noncomputable def andThen (o:Out) (g:Sd->M Out):M Out:=match o with
 | .nx sd=>g sd
 | o=>pure o
section
variable {X:Cx} {E:XE} {pos:Pos}
theorem zrw:SSs X E [] (fun sd=>pure (.nx sd)):=PSs.imp zqQ fun D0 σ H ⟨ι,h,sd,L,hh,q⟩=>Fin.out hh q σ L
theorem zpF {st:Stmt} {rest:List Stmt} {g g':Sd->M Out} (h1:SS X E st g) (h2:SSs X E rest g'):SSs X E (st::rest) (fun sd=>do let o<-g sd;andThen o g'):=by
 refine PSs.imp (zoe h1 h2) fun D0 σ H ⟨ι,h,sd,L,hh,q⟩=>⟨ι,h,sd,L,hh,Fin.bind q fun o h1 ι1 H1 e1 s1 hr1 q1=> ?_⟩
 cases o with
 | nx sd'=>exact fun σ' L'=>⟨ι1,h1,sd',L',hr1,q1⟩
 | rt d=>exact Fin.out (E:=E) (P:=zjT X.K D0) hr1 q1
 | bk sd'=>exact Fin.out (E:=E) (P:=zjT X.K D0) hr1 q1
 | ct sd'=>exact Fin.out (E:=E) (P:=zjT X.K D0) hr1 q1
theorem zsQ {st:Stmt} {g:Sd->M Out} (h1:SS X E st g):SSs X E [st] g:=zqE h1
theorem zsH {e:Expr} {f:Sd->M D} (he:SE X E e f) (hs:swapsWith e none pos.line X.env=pure false:=by rfl):SS X E (.Expr e pos) (fun sd=>do let _<-f sd;pure (.nx sd)):=by
 refine PS.imp (zpd he hs) fun D0 σ H ⟨ι,h,sd,L,hh,q⟩=>⟨ι,h,sd,L,hh,Fin.bind q fun d h1 ι1 H1 e1 s1 hr1 q1 v rv=> ?_⟩
 exact Fin.out hr1 q1 σ (L.step s1)
theorem zui {e:Expr} {f:Sd->M D} (he:SE X E e f):SS X E (.Return (some e) pos) (fun sd=>do let d<-f sd;pure (.rt d)):=by
 refine PS.imp (ztv he) fun D0 σ H ⟨ι,h,sd,L,hh,q⟩=>⟨ι,h,sd,L,hh,Fin.bind q fun d h1 ι1 H1 e1 s1 hr1 q1 v rv=> ?_⟩
 exact Fin.out hr1 q1 v rv
theorem zvP {c:Expr} {a b:List Stmt} {t:Sd->M Bool} {g g':Sd->M Out} (hc:ST X E c t) (ha:SSs X E a g) (hb:SSs X E b g'):SS X E (.If c a b pos) (fun sd=>do let c<-t sd;if c=true then g sd else g' sd):=by
 refine PS.imp (zt2 hc ha hb) fun D0 σ H ⟨ι,h,sd,L,hh,q⟩=>⟨ι,h,sd,L,hh,Fin.bind q fun c h1 ι1 H1 e1 s1 hr1 q1=> ?_⟩
 cases c with
 | true=>exact zq1 ⟨ι1,h1,sd,L.step s1,hr1,q1⟩
 | false=>exact zq3 ⟨ι1,h1,sd,L.step s1,hr1,q1⟩
noncomputable def ztt (K:W.Frag) (E:XE) (g:D->Sd->M Sd):TG:=fun v σ H Q=> ∃ ι h sd d,zbZ K ι H sd σ/\za1 K ι H h/\Rel K ι H d v/\Fin K E ι H (g d sd h) fun sd' ι' H'=> ∀ σ',zbZ K ι' H' sd' σ'->Q σ' H'
noncomputable def zuv (K:W.Frag) (E:XE) (g:List D->Sd->M Sd):TGs:=fun vs σ H Q=> ∃ ι h sd ds,zbZ K ι H sd σ/\za1 K ι H h/\zal K ι H ds vs/\Fin K E ι H (g ds sd h) fun sd' ι' H'=> ∀ σ',zbZ K ι' H' sd' σ'->Q σ' H'
noncomputable abbrev SG (X:Cx) (E:XE) (tg:Expr) (g:D->Sd->M Sd):Prop:=PG X tg (ztt X.K E g)
noncomputable abbrev SGs (X:Cx) (E:XE) (tgs:List Expr) (g:List D->Sd->M Sd):Prop:=PGs X tgs (zuv X.K E g)
noncomputable def zaB (i:Nat):D->Sd->M Sd:=fun d sd=>pure (sd.set i (some d))
theorem zqo (i:Nat) {x:Str} (hN:X.N.Nodup) (hi:X.N[i]? = some x) (hx:Loc X.env.scope x) (hf:X.fn x=true\/X.env.scope.names.lookup x=some .local):SG X E (.Name x pos) (zaB i):=by
 refine PG.imp (zpT hN hi hx hf) fun v σ H Q ⟨ι,h,sd,d,L,hh,r,q⟩=> ?_
 exact Fin.out hh q _ (L.set r i)
theorem PGs.imp {tgs:List Expr} {t t':TGs} (h:PGs X tgs t) (m: ∀ v σ H Q,t' v σ H Q->t v σ H Q):PGs X tgs t':=fun pins s σ H v u Q I r q=>h pins s σ H v u Q I r (m _ _ _ _ q)
noncomputable def zef:List D->Sd->M Sd:=fun ds sd=>match ds with | []=>pure sd | _=>M.bad
noncomputable def zbi (g:D->Sd->M Sd) (gs:List D->Sd->M Sd):List D->Sd->M Sd:=fun ds sd=>match ds with
 | []=>M.bad
 | d::r=>do let sd1<-g d sd;gs r sd1
theorem zpJ:SGs X E [] zef:=by
 refine PGs.imp zqM fun v σ H Q ⟨ι,h,sd,ds,L,hh,r,q⟩=> ?_
 cases ds with
 | nil=>simp only [zal] at r;exact ⟨r,Fin.out hh q _ L⟩
 | cons d r=>exact False.elim q
theorem znt {e:Expr} {es:List Expr} {g:D->Sd->M Sd} {gs:List D->Sd->M Sd} (h1:SG X E e g) (h2:SGs X E es gs)
  (hs:(assignEach (e::es) X.env).map (·.2)=assign e X.env::(assignEach es X.env).map (·.2):=by rfl):SGs X E (e::es) (zbi g gs):=by
 refine PGs.imp (znz h1 h2 hs) fun v σ H Q ⟨ι,h,sd,ds,L,hh,r,q⟩=> ?_
 cases ds with
 | nil=>exact False.elim q
 | cons d ds=>
  simp only [zal] at r
  obtain ⟨v1,vr,rfl,r1,r2⟩:=r
  refine ⟨v1,vr,rfl,ι,h,sd,d,L,hh,r1,Fin.bind q fun sd1 h1 ι1 H1 e1 s1 hr1 q1 σ1 L1=> ?_⟩
  exact ⟨ι1,h1,sd1,ds,L1,hr1,r2.step s1,q1⟩
noncomputable def zee (n:Nat) (gs:List D->Sd->M Sd):D->Sd->M Sd:=fun d sd=>match d with
 | .tup ds=>if ds.length=n then gs ds sd else M.bad
 | _=>M.bad
theorem zcm {K:W.Frag} {ι:Io} {H:Hp} {ds:List D} {v:V} (h:Rel K ι H (.tup ds) v): ∃ a vs,v= .ref a/\SqT K H a vs/\zal K ι H ds vs:=by
 simp only [Rel] at h
 obtain ⟨a,vs,e,h1,h2⟩:=h
 exact ⟨a,vs,e,.inl (.inl h1.1),h2⟩
theorem zkk {K:W.Frag} {ι:Io} {H:Hp} {ds:List D} {v:V} (h:Rel K ι H (.scr ds) v): ∃ a vs,v= .ref a/\SqL K H a vs/\zal K ι H ds vs:=by
 simp only [Rel] at h
 obtain ⟨a,vs,e,h1,h2⟩:=h
 refine ⟨a,vs,e,?_,h2⟩
 rcases h1 with h1 | h1
 ·exact .inl h1.1
 ·rcases h1 with h1 | h1
  ·rcases h1 with h1 | ⟨o,h1⟩<;>cases h1
  ·exact .inr h1
theorem zc4 {K:W.Frag} {ι:Io} {H:Hp} {ds:List D} {v:V} (h:Rel K ι H (.lst ds) v): ∃ a vs,v= .ref a/\SqL K H a vs/\zal K ι H ds vs:=by
 simp only [Rel] at h
 obtain ⟨a,vs,e,h1,h2⟩:=h
 exact ⟨a,vs,e,.inl (.inl h1.1),h2⟩
theorem zq7 {es:List Expr} {k:Nat} {gs:List D->Sd->M Sd} {n:Nat} (hc:X.calm=true) (h:SGs X E es gs)
  (hn:(assignEach es X.env).length=n:=by rfl) (hst:(assignEach es X.env).findIdx? (·.1)=none:=by rfl):SG X E (.Tuple es k pos) (zee n gs):=by
 refine PG.imp (zrf hc h hn hst) fun v σ H Q ⟨ι,h,sd,d,L,hh,r,q⟩=> ?_
 cases d with
 | tup ds=>
  obtain ⟨a,vs,e,h1,h2⟩:=zcm r
  have q:Fin X.K E ι H ((if ds.length=n then gs ds sd else M.bad) h) _:=q
  by_cases hl:ds.length=n
  ·rw [if_pos hl] at q
   exact ⟨a,vs,e,h1,by rw [<- h2.length];exact hl,ι,h,sd,ds,L,hh,h2,q⟩
  ·rw [if_neg hl] at q
   exact False.elim q
 | _=>exact False.elim q
theorem ztS {tg e:Expr} {f:Sd->M D} {g:D->Sd->M Sd} (he:SE X E e f) (hg:SG X E tg g) (hs:swapsWithSole [tg] e pos.line X.env=pure false:=by rfl) (hw:swappedStores [tg] e X.env=pure none:=by rfl)
  (h1:(assignEach [tg] X.env).map (·.2)=[assign tg X.env]:=by rfl):SS X E (.Assign [tg] e pos) (fun sd=>do let d<-f sd;let sd'<-g d sd;pure (.nx sd')):=by
 refine PS.imp (zsm he hg hs hw h1) fun D0 σ H ⟨ι,h,sd,L,hh,q⟩=>⟨ι,h,sd,L,hh,Fin.bind q fun d h1 ι1 H1 e1 s1 hr1 q1 v rv=> ?_⟩
 exact ⟨ι1,h1,sd,d,L.step s1,hr1,rv,Fin.bind q1 fun sd' h2 ι2 H2 e2 s2 hr2 q2=>Fin.out hr2 q2⟩
theorem zu4 (i:Nat) {x:Str} {e:Expr} {f:Sd->M D} {pos':Pos} (hN:X.N.Nodup) (hi:X.N[i]? = some x) (hx:Loc X.env.scope x) (hf:X.fn x=true\/X.env.scope.names.lookup x=some .local) (he:SE X E e f) (hs:swapsWith e (some (.Name x pos')) pos.line X.env=pure false:=by rfl):
  SS X E (.Assign [.Name x pos'] e pos) (fun sd=>do let d<-f sd;pure (.nx (sd.set i (some d)))):=by
 refine PS.imp (zrM hN hi hx he hs hf) fun D0 σ H ⟨ι,h,sd,L,hh,q⟩=>⟨ι,h,sd,L,hh,Fin.bind q fun d h1 ι1 H1 e1 s1 hr1 q1 v rv=> ?_⟩
 exact Fin.out hr1 q1 _ ((L.step s1).set rv i)
noncomputable def zuz (H H2:Hp):Prop:=H2=H\/ ∃ q vs,H q=none/\H2=upd H q (.tup vs)
theorem zuz.step {K:W.Frag} {ι:Io} {H H2:Hp} {h:Hh} (g:zuz H H2) (hr:za1 K ι H h):zbu ι H ι H2/\za1 K ι H2 h:=by
 rcases g with e | ⟨q,vs,hq,e⟩
 ·subst e;exact ⟨zbu.refl _ _,hr⟩
 ·subst e;exact ⟨hr.laidS hq,hr.laid hq⟩
structure zql (K:W.Frag) (ι:Io) (H:Hp) (J:It) (ds:List D):Prop where
 go: ∀ ι' H' (i:Nat),Pass ι H ι' H'->i<ds.length->J.go i H'
 yld: ∀ ι' H' h (i:Nat) x H2,Pass ι H ι' H'->za1 K ι' H' h->i<ds.length->J.yld i H' x H2->zuz H' H2/\ ∃ d,ds[i]? = some d/\Rel K ι' H2 d x
 stop: ∀ ι' H',Pass ι H ι' H'->J.stop ds.length H'
noncomputable def zuk (K:W.Frag) (E:XE) (f:Sd->M (List D)):TI:=fun σ H Q=> ∃ ι h sd,zbZ K ι H sd σ/\za1 K ι H h/\Fin K E ι H (f sd h) fun ds ι' H'=> ∀ J,zql K ι' H' J ds->Q J H'
noncomputable abbrev SI (X:Cx) (E:XE) (tg iter:Expr) (f:Sd->M (List D)):Prop:=PI X tg iter (zuk X.K E f)
noncomputable def ze4:D->M (List D)
 | .tup ds=>pure ds
 | .lst ds=>pure ds
 | _=>M.bad
theorem znp {K:W.Frag} {ι:Io} {H:Hp} {a:Addr} {vs:List V} {ds:List D} (h: ∀ ι' H',Pass ι H ι' H'->SqT K H' a vs) (rl:zal K ι H ds vs):zql K ι H (Itt K a) ds where
 go:=fun ι' H' i s hi=>⟨vs,vs[i]'(by rw [<- rl.length];exact hi),h ι' H' s,by simp⟩
 yld:=fun ι' H' _ i x H2 s _ hi ⟨e,y⟩=>by
  subst e
  have hx:=y vs (h ι' _ s)
  obtain ⟨d,e1,e2⟩:=rl.getV hx
  exact ⟨.inl rfl,d,e1,e2.pass s⟩
 stop:=fun ι' H' s=>⟨vs,h ι' H' s,by rw [rl.length];exact qaG _⟩
theorem zm5 {K:W.Frag} {ι:Io} {H:Hp} {a:Addr} {vs:List V} {ds:List D} (h: ∀ ι' H',Pass ι H ι' H'->SqL K H' a vs) (rl:zal K ι H ds vs):zql K ι H (Itl K a) ds where
 go:=fun ι' H' i s hi=>⟨vs,vs[i]'(by rw [<- rl.length];exact hi),h ι' H' s,by simp⟩
 yld:=fun ι' H' _ i x H2 s _ hi ⟨e,y⟩=>by
  subst e
  have hx:=y vs (h ι' _ s)
  obtain ⟨d,e1,e2⟩:=rl.getV hx
  exact ⟨.inl rfl,d,e1,e2.pass s⟩
 stop:=fun ι' H' s=>⟨vs,h ι' H' s,by rw [rl.length];exact qaG _⟩
theorem Pass.refl (ι:Io) (H:Hp):Pass ι H ι H:=(zbu.refl ι H).pass
theorem zqx {K:W.Frag} {ι:Io} {H:Hp} {ds:List D} {v:V} (h:Rel K ι H (.tup ds) v): ∃ a vs,v= .ref a/\(∀ ι' H',Pass ι H ι' H'->SqT K H' a vs)/\zal K ι H ds vs:=by
 simp only [Rel] at h
 obtain ⟨a,vs,e,h1,h2⟩:=h
 exact ⟨a,vs,e,fun ι' H' s=> .inl (.inl (s.keep _ _ h1.1 h1.2).1),h2⟩
theorem zpt {K:W.Frag} {ι:Io} {H:Hp} {ds:List D} {v:V} (h:Rel K ι H (.lst ds) v): ∃ a vs,v= .ref a/\(∀ ι' H',Pass ι H ι' H'->SqL K H' a vs)/\zal K ι H ds vs:=by
 simp only [Rel] at h
 obtain ⟨a,vs,e,h1,h2⟩:=h
 exact ⟨a,vs,e,fun ι' H' s=> .inl (.inl (s.keep _ _ h1.1 h1.2).1),h2⟩
end
end L3
namespace L2
open PySem PySem.Spec PyProof.Rows
noncomputable def zvN (K:W.Frag) (tl:TE):TI:=fun σ H R=>tl σ H fun x H1=> ∃ a,x= .ref a/\(((∃ xs,SqL K H1 a xs)/\R (Itl K a) H1)\/((∃ xs,SqT K H1 a xs)/\R (Itt K a) H1))
theorem zth {X:Cx} {tg:Expr} {l:Expr} {tl:TE} (hl:PE X l tl):PI X tg l (zvN X.K tl):=by
 intro pins s σ H R I h
 refine thn (hl pins s σ H _ I h) fun v s1 ⟨x,H1,I1,r1,q1⟩=> ?_
 obtain ⟨a,e,⟨⟨xs,hq⟩,q⟩ | ⟨⟨xs,hq⟩,q⟩⟩:=q1
 ·subst e
  cases r1
  obtain ⟨its,rv,p,hz⟩:=I1.list hq
  refine wpAny_pyIter_list p.isList ?_
  refine ⟨s1.heap.objs.size,[s1.heap.objs.size],_,_,H1,rfl,I1.kept (t':=s1.toks) fun b o e=>qad _ e,zlX a _,⟨_,qal _ rfl,rfl,rfl⟩,fun b hb=> ?_,q⟩
  have e:b=s1.heap.objs.size:=by simpa using hb
  subst e
  exact I1.fpOk (qaG _) (I1.hok.fresh (qaG _))
 ·subst e
  cases r1
  obtain ⟨its,rv,p,hz⟩:=I1.tuple hq
  refine wpAny_pyIter_tuple (show s1.heap.IsTuple a its.toArray from p) ?_
  refine ⟨s1.heap.objs.size,[s1.heap.objs.size],_,_,H1,rfl,I1.kept (t':=s1.toks) fun b o e=>qad _ e,zjR a _,⟨_,qal _ rfl,rfl,rfl⟩,fun b hb=> ?_,q⟩
  have e:b=s1.heap.objs.size:=by simpa using hb
  subst e
  exact I1.fpOk (qaG _) (I1.hok.fresh (qaG _))
end L2
namespace L3
open PySem PySem.Spec PyProof.Rows L2
section
variable {X:Cx} {E:XE} {pos:Pos}
theorem ztx {tg e:Expr} {f:Sd->M D} (he:SE X E e f):SI X E tg e (fun sd=>do let d<-f sd;ze4 d):=by
 refine PI.imp (zth he) fun σ H Q ⟨ι,h,sd,L,hh,q⟩=>⟨ι,h,sd,L,hh,Fin.bind q fun d h1 ι1 H1 e1 s1 hr1 q1 v rv=> ?_⟩
 cases d with
 | lst ds=>
  obtain ⟨a,vs,e,h1',h2⟩:=zpt rv
  exact ⟨a,e,.inl ⟨⟨vs,h1' _ _ (Pass.refl _ _)⟩,Fin.out hr1 q1 _ (zm5 h1' h2)⟩⟩
 | tup ds=>
  obtain ⟨a,vs,e,h1',h2⟩:=zqx rv
  exact ⟨a,e,.inr ⟨⟨vs,h1' _ _ (Pass.refl _ _)⟩,Fin.out hr1 q1 _ (znp h1' h2)⟩⟩
 | _=>exact False.elim q1
noncomputable def zc9 (lo:Int) (n:Nat):List D:=(List.range n).map fun (k:Nat)=>D.int (lo+(k:Int))
theorem zmT {K:W.Frag} {ι:Io} {H:Hp} {lo:Int} {n:Nat}:zql K ι H (Itr lo n) (zc9 lo n) where
 go:=fun ι' H' i s hi=>by show i<n;simpa [zc9] using hi
 yld:=fun ι' H' _ i x H2 s _ hi ⟨e,y⟩=>by
  subst e y
  have hi:i<n:=by simpa [zc9] using hi
  refine ⟨.inl rfl,.int (lo+i),?_,by simp [Rel]⟩
  simp [zc9,hi]
 stop:=fun ι' H' s=>by
  show n<=(zc9 lo n).length
  simp [zc9]
noncomputable def zdf (j:Int):Bool:=decide (-(2^62)<=j) && decide (j<2^62)
noncomputable def zju:List D->M (List D)
 | [.int j]=>if zdf j=true then pure (zc9 0 j.toNat) else M.bad
 | _=>M.bad
theorem ze1 {j:Int} (h:zdf j=true): -(2^62)<=j/\j<2^62:=by
 unfold zdf at h
 simpa using h
theorem zo2 {tg a:Expr} {p:Pos} {fs:Sd->M (List D)} (hg:Gl X "range") (hm:X.mg "range"=none) (ha:SA X E [a] fs) (hs:starEach [a] X.env=[(false,eval a X.env)]:=by rfl):
  SI X E tg (.Call (.Name "range" p) [a] [] pos) (fun sd=>do let ds<-fs sd;zju ds):=by
 refine PI.imp (zlY hg hm ha hs) fun σ H Q ⟨ι,h,sd,L,hh,q⟩=>⟨ι,h,sd,L,hh,Fin.bind q fun ds h1 ι1 H1 e1 s1 hr1 q1 vs rv=> ?_⟩
 match ds,rv,q1 with
 | [.int j],rv,q1=>
  simp only [zal,Rel] at rv
  obtain ⟨v,r,rfl,rfl,rfl⟩:=rv
  have q1:Fin X.K E ι1 H1 ((if zdf j=true then (pure (zc9 0 j.toNat):M (List D)) else M.bad) h1) _:=q1
  by_cases hj:zdf j=true
  ·rw [if_pos hj] at q1
   exact ⟨j,rfl,(ze1 hj).1,(ze1 hj).2,Fin.out hr1 q1 _ zmT⟩
  ·rw [if_neg hj] at q1
   exact False.elim q1
 | [],_,q1=>exact False.elim q1
 | .non::_,_,q1=>exact False.elim q1
 | .bl _::_,_,q1=>exact False.elim q1
 | .str _::_,_,q1=>exact False.elim q1
 | .tup _::_,_,q1=>exact False.elim q1
 | .lst _::_,_,q1=>exact False.elim q1
 | .cel _::_,_,q1=>exact False.elim q1
 | .set _::_,_,q1=>exact False.elim q1
 | .dct::_,_,q1=>exact False.elim q1
 | .fn _::_,_,q1=>exact False.elim q1
 | .scr _::_,_,q1=>exact False.elim q1
 | .exn _::_,_,q1=>exact False.elim q1
 | .int _::_::_,_,q1=>exact False.elim q1
noncomputable def zaS (body:D->Sd->M Out):List D->Sd->M Out
 | [],sd=>pure (.nx sd)
 | x::r,sd=>do
  let o<-body x sd
  match o with
  | .nx sd'=>zaS body r sd'
  | .ct sd'=>zaS body r sd'
  | .bk sd'=>pure (.nx sd')
  | .rt d=>pure (.rt d)
theorem zuF {tg iter:Expr} {body:List Stmt} {fi:Sd->M (List D)} {g:D->Sd->M Sd} {gb:Sd->M Out} (hc:X.calm=true) (hp:PassesOwn (model X.prog X.w) X.A X.env X.xe) (hi:SI X E tg iter fi) (hg:SG X E tg g) (hb:SSs X E body gb)
  (hs: ∀ x,foldedSetIterable iter X.env x=pure x:=by intro _;rfl):SS X E (.For tg iter body [] pos) (fun sd=>do let ds<-fi sd;zaS (fun x sd=>do let sd1<-g x sd;gb sd1) ds sd):=by
 refine PS.imp (zti hp hc hi hg hb hs) fun D0 σ H ⟨ι,h,sd,L,hh,q⟩=>⟨ι,h,sd,L,hh,Fin.bind q fun ds h1 ι1 H1 e1 s1 hr1 q1 J ok=> ?_⟩
 refine ⟨fun i m σ' H'=>m=ds.length - i/\i<=ds.length/\ ∃ ι' h' sd',zbu ι1 H1 ι' H'/\zbZ X.K ι' H' sd' σ'/\za1 X.K ι' H' h'/\Fin X.K E ι' H' (zaS (fun x sd=>do let sd1<-g x sd;gb sd1) (ds.drop i) sd' h') (zjT X.K D0),
   ⟨_,rfl,Nat.zero_le _,ι1,h1,sd,zbu.refl _ _,L.step s1,hr1,by simpa using q1⟩,?_⟩
 rintro i m σ2 H2 ⟨rfl,hi2,ι2,h2,sd2,s2,L2,hr2,q2⟩
 by_cases hlt:i<ds.length
 ·right
  refine ⟨ok.go ι2 H2 i s2.pass hlt,fun σ' H'=>i+1<=ds.length/\ ∃ ι' h' sd',zbu ι1 H1 ι' H'/\zbZ X.K ι' H' sd' σ'/\za1 X.K ι' H' h'/\Fin X.K E ι' H' (zaS (fun x sd=>do let sd1<-g x sd;gb sd1) (ds.drop (i+1)) sd' h') (zjT X.K D0),
    fun σ' H' p=>⟨ds.length - (i+1),by omega,rfl,p.1,p.2⟩,fun x H3 y=> ?_⟩
  obtain ⟨gr,d,ed,rd⟩:=ok.yld ι2 H2 h2 i x H3 s2.pass hr2 hlt y
  obtain ⟨s3,hr3⟩:=gr.step hr2
  have edr:ds.drop i=d::ds.drop (i+1):=by
   rw [List.drop_eq_getElem_cons hlt]
   rw [List.getElem?_eq_getElem hlt] at ed
   rw [Option.some.inj ed]
  rw [edr] at q2
  have q3:Fin X.K E ι2 H3 (zaS (fun x sd=>do let sd1<-g x sd;gb sd1) (d::ds.drop (i+1)) sd2 h2) (zjT X.K D0):=Fin.step s3 q2
  refine ⟨ι2,h2,sd2,d,L2.step s3,hr3,rd,?_⟩
  have q5:Fin X.K E ι2 H3 ((g d sd2>>=fun sd1=>(gb sd1>>=fun o=>(match o with
    | .nx sd'=>zaS (fun x sd=>do let sd1<-g x sd;gb sd1) (ds.drop (i+1)) sd'
    | .ct sd'=>zaS (fun x sd=>do let sd1<-g x sd;gb sd1) (ds.drop (i+1)) sd'
    | .bk sd'=>pure (.nx sd')
    | .rt d=>pure (.rt d):M Out))) h2) (zjT X.K D0):=by
   have e:(zaS (fun x sd=>do let sd1<-g x sd;gb sd1) (d::ds.drop (i+1)) sd2 h2)=((g d sd2>>=fun sd1=>(gb sd1>>=fun o=>(match o with
     | .nx sd'=>zaS (fun x sd=>do let sd1<-g x sd;gb sd1) (ds.drop (i+1)) sd'
     | .ct sd'=>zaS (fun x sd=>do let sd1<-g x sd;gb sd1) (ds.drop (i+1)) sd'
     | .bk sd'=>pure (.nx sd')
     | .rt d=>pure (.rt d):M Out))) h2):=by
    show M.bind (M.bind (g d sd2) gb) _ h2=M.bind (g d sd2) _ h2
    unfold M.bind
    cases g d sd2 h2<;>rfl
   rw [<- e]
   exact q3
  refine Fin.bind q5 fun sd6 h6 ι6 H6 e6 s6 hr6 q6 σ6 L6=> ?_
  refine ⟨ι6,h6,sd6,L6,hr6,Fin.bind q6 fun o h7 ι7 H7 e7 s7 hr7 q7=> ?_⟩
  have st7:zbu ι1 H1 ι7 H7:=((s2.trans s3).trans s6).trans s7
  cases o with
  | nx sd'=>exact fun σ' L'=>⟨hlt,ι7,h7,sd',st7,L',hr7,q7⟩
  | ct sd'=>exact fun σ' L'=>⟨hlt,ι7,h7,sd',st7,L',hr7,q7⟩
  | bk sd'=>exact fun σ' L'=>Fin.out (E:=E) (P:=zjT X.K D0) hr7 q7 σ' L'
  | rt d=>exact fun v rv=>Fin.out (E:=E) (P:=zjT X.K D0) hr7 q7 v rv
 ·left
  have e:i=ds.length:=by omega
  subst e
  refine ⟨ok.stop ι2 H2 s2.pass,?_⟩
  rw [List.drop_length] at q2
  exact Fin.out (E:=E) (P:=zjT X.K D0) hr2 q2 σ2 L2
noncomputable def zbt (f:D->M (Option D)):List D->M (List D)
 | []=>pure []
 | x::r=>do
  let o<-f x
  let ys<-zbt f r
  pure (match o with | some y=>y::ys | none=>ys)
noncomputable def zaT (g:D->Sd->M Sd) (tc:Sd->M Bool) (te:Sd->M D) (sd:Sd) (x:D):M (Option D):=do
 let sd1<-g x sd
 let c<-tc sd1
 if c=true then do
  let y<-te sd1
  pure (some y)
 else pure none
end
noncomputable def Io.hide (ι:Io) (p:Addr):Io:=⟨ι.c,p::ι.x⟩
noncomputable def Io.show (ι:Io):Io:=⟨ι.c,ι.x.tail⟩
theorem znG {ι:Io} {a:Addr} (h:ι.show.Has a):ι.Has a:=h.imp id List.mem_of_mem_tail
section
variable {K:W.Frag} {ι ι':Io} {H H':Hp} {p:Addr} {o:HO} {h:Hh}
theorem zeI (hp:H p=none):Pass ι H (ι.hide p) (upd H p o):=⟨fun _ _ z=> .inl z,fun b o' hb n=>⟨by rw [zau (zaG hb hp)];exact hb,fun z=>by
  rcases z with z | z
  · exact n (.inl z)
  · rcases List.mem_cons.mp z with z | z
    · rw [z,hp] at hb;cases hb
    · exact n (.inr z)⟩⟩
theorem zg8:Pass ι H ι.show H:=⟨fun _ _ z=> .inl z,fun b o' hb n=>⟨hb,fun z=>n (znG z)⟩⟩
theorem zdA (hp:p∈ι.x):Pass ι H ι (upd H p o):=⟨fun _ _ z=> .inl z,fun b o' hb n=>⟨by rw [zau (show b≠p from fun z=>n (.inr (z▸hp)))];exact hb,n⟩⟩
theorem za1.hide (hr:za1 K ι H h) (hp:H p=none):za1 K (ι.hide p) (upd H p o) h:=
 ⟨hr.len,hr.inj,fun n a c h1 h2=>by
   obtain ⟨o',e2,e3⟩:=hr.at_ n a c h1 h2
   exact ⟨o',by rw [zau (zaG e2 hp)];exact e2,e3.pass (zeI hp)⟩,hr.dead,fun a ha=>by
   rcases List.mem_cons.mp ha with z | z
   · subst z;exact ⟨⟨o,zaL⟩,fun z=>hr.nin hp (.inl z)⟩
   · refine ⟨?_,(hr.hidt a z).2⟩
     rw [zau (show a≠p from fun w=>hr.nin hp (.inr (w▸z)))]
     exact (hr.hidt a z).1⟩
theorem za1.hid (hr:za1 K ι H h) (hp:p∈ι.x):za1 K ι (upd H p o) h:=
 ⟨hr.len,hr.inj,fun n a c h1 h2=>by
   obtain ⟨o',e2,e3⟩:=hr.at_ n a c h1 h2
   have ne:a≠p:=fun z=>(hr.hidt p hp).2 (z▸List.mem_of_getElem? h1)
   exact ⟨o',by rw [zau ne];exact e2,e3.pass (zdA hp)⟩,hr.dead,fun a ha=>by
   refine ⟨?_,(hr.hidt a ha).2⟩
   by_cases z:a=p
   · subst z;exact ⟨o,zaL⟩
   · rw [zau z];exact (hr.hidt a ha).1⟩
theorem za1.show (hr:za1 K ι H h):za1 K ι.show H h:=
 ⟨hr.len,hr.inj,fun n a c h1 h2=>by
   obtain ⟨o',e2,e3⟩:=hr.at_ n a c h1 h2
   exact ⟨o',e2,e3.pass zg8⟩,hr.dead,fun a ha=>hr.hidt a (List.mem_of_mem_tail ha)⟩
theorem zhq {ι1 ι2:Io} {H1 H2:Hp} (hp:H p=none) (hpx:p∉ι.x) (hx:ι1.x=p::ι.x) (s:zbu ι H ι1.show H1) (t:zbu ι1 H1 ι2 H2):zbu ι H ι2.show (upd H2 p o) where
 old:=fun n q h=>by
  rcases s.old n q h with h | h
  ·exact t.old n q h
  ·rcases t.old n _ h with h | h<;>exact .inr h
 new:=fun a h=>by
  rcases t.new a h with h | h
  ·exact s.new a h
  ·by_cases z:some a∈ι.c
   ·exact .inl z
   ·refine .inr ?_
    cases q:H a with
    | none=>rfl
    | some o=>
     by_cases z':a∈ι.x
     ·rw [s.hidk a z',q] at h;cases h
     ·rw [s.keep a o q (fun w=>w.elim z z')] at h;cases h
 hid:=by
  show ι2.x.tail=ι.x
  rw [t.hid,hx]
  rfl
 hidk:=fun a ha=>by
  have z:a≠p:=fun z=>hpx (z▸ha)
  rw [zau z,t.hidk a (by rw [hx];exact qaj _ ha)]
  exact s.hidk a ha
 keep:=fun b q hb n=>by
  have ne:b≠p:=zaG hb hp
  rw [zau ne]
  refine t.keep b q (s.keep b q hb n) fun z=> ?_
  rcases z with z | z
  ·rcases s.new b z with z | z
   ·exact n (.inl z)
   ·rw [hb] at z;cases z
  ·rw [hx] at z
   rcases List.mem_cons.mp z with z | z
   ·exact ne z
   ·exact n (.inr z)
theorem zbu.shown {ι2:Io} {H2:Hp} {r:List Addr} (hx:ι.x=p::r) (t:zbu ι H ι2 H2):zbu ι.show H ι2.show H2 where
 old:=t.old
 new:=t.new
 hid:=by show ι2.x.tail=ι.x.tail;rw [t.hid]
 hidk:=fun a ha=>t.hidk a (List.mem_of_mem_tail ha)
 keep:=fun b q hb n=>by
  by_cases z:b=p
  ·subst z
   rw [t.hidk b (by rw [hx];exact qan)]
   exact hb
  ·refine t.keep b q hb fun w=> ?_
   rcases w with w | w
   ·exact n (.inl w)
   ·rw [hx] at w
    rcases List.mem_cons.mp w with w | w
    ·exact z w
    ·exact n (.inr (by show b∈ι.x.tail;rw [hx];exact w))
theorem Fin.bindB {α β:Type} {E:XE} {m:M α} {f:α->M β} {P:β->Io->Hp->Prop} {P':α->Io->Hp->Prop} {ιb:Io} {Hb:Hp} (q:Fin K E ιb Hb ((m>>=f) h) P)
  (conv: ∀ ι' H' h',zbu ι H ι' H'->za1 K ι' H' h'-> ∃ ι'',zbu ιb Hb ι'' H'/\za1 K ι'' H' h')
  (k: ∀ a h' ι' H',m h= .ok a h'->zbu ι H ι' H'->za1 K ι' H' h'->Fin K E ιb Hb (f a h') P->P' a ι' H'):Fin K E ι H (m h) P':=by
 have q':Fin K E ιb Hb (M.bind m f h) P:=q
 unfold M.bind at q'
 cases e:m h with
 | ok a h'=>
  rw [e] at q'
  intro ι' H' s hr
  exact k a h' ι' H' e s hr q'
 | exc c h'=>
  rw [e] at q'
  intro ι' H' s hr
  obtain ⟨ι'',s2,hr2⟩:=conv ι' H' h' s hr
  exact q' _ _ s2 hr2
 | bad=>rw [e] at q';exact q'
end
noncomputable instance:LawfulMonad M:=LawfulMonad.mk' M
 (id_map:=fun x=>by
   funext h
   show M.bind x (fun a=>M.pure (id a)) h=x h
   unfold M.bind M.pure
   cases x h<;>rfl)
 (pure_bind:=fun x f=>rfl)
 (bind_assoc:=fun x f g=>by
   funext h
   show M.bind (M.bind x f) g h=M.bind x (fun a=>M.bind (f a) g) h
   unfold M.bind
   cases x h<;>rfl)
noncomputable def zah (src:List (Option Nat)) (sd:Sd):Sd:=src.map fun o=>o.bind fun i=>(sd[i]?).join
theorem zbZ.bStart {K:W.Frag} {ι:Io} {H:Hp} {sd:Sd} {σ:L2.St} {src:List (Option Nat)} (h:zbZ K ι H sd σ):zbZ K ι H (zah src sd) (bStart src σ):=by
 refine ⟨by unfold zah L2.bStart;rw [qax,qax],fun i d e=> ?_⟩
 unfold zah at e
 unfold L2.bStart
 rw [List.getElem?_map] at e ⊢
 cases z:src[i]? with
 | none=>rw [z] at e;cases e
 | some o=>
  rw [z] at e
  cases o with
  | none=>cases e
  | some j=>
   have e:(sd[j]?).join=some d:=by simpa using e
   cases w:sd[j]? with
   | none=>rw [w] at e;cases e
   | some q=>
    rw [w] at e
    have e:q=some d:=by simpa using e
    subst e
    obtain ⟨v,h1,h2⟩:=h.2 j d w
    exact ⟨v,by simp [h1],h2⟩
noncomputable def zax (g:D->Sd->M Sd) (src:List (Option Nat)):Prop:= ∀ x sd h sd1 h1,sd.length=src.length->(∀ (i:Nat),src[i]? = some none->sd[i]? = some none)->g x sd h= .ok sd1 h1->sd1.length=sd.length/\ ∀ (i:Nat) d,src[i]? ≠ some none->sd[i]? = some (some d)->sd1[i]? = some (some d)
noncomputable def zbd (g:List D->Sd->M Sd) (src:List (Option Nat)):Prop:= ∀ x sd h sd1 h1,g x sd h= .ok sd1 h1->sd1.length=sd.length/\ ∀ (i:Nat) d,src[i]? ≠ some none->sd[i]? = some (some d)->sd1[i]? = some (some d)
theorem zkw {i:Nat} {src:List (Option Nat)} (h:src[i]? = some none): ∀ x sd h sd1 h1,zaB i x sd h= .ok sd1 h1->sd1.length=sd.length/\ ∀ (j:Nat) d,src[j]? ≠ some none->sd[j]? = some (some d)->sd1[j]? = some (some d):=fun x sd h0 sd1 h1 e=>by
 have e:R.ok (sd.set i (some x)) h0= .ok sd1 h1:=e
 cases e
 refine ⟨qay,fun j d hj e=> ?_⟩
 rw [qak (show i≠j from fun z=>hj (z▸h))]
 exact e
theorem zax.name {i:Nat} {src:List (Option Nat)} (h:src[i]? = some none):zax (zaB i) src:=fun x sd h0 sd1 h1 _ _ e=>zkw h x sd h0 sd1 h1 e
theorem zbd.nil {src:List (Option Nat)}:zbd zef src:=fun x sd h sd1 h1 e=>by
 cases x with
 | nil=>
  have e:R.ok sd h= .ok sd1 h1:=e
  cases e
  exact ⟨rfl,fun _ _ _ z=>z⟩
 | cons _ _=>cases (show R.bad=R.ok sd1 h1 from e)
theorem zbd.cons {i:Nat} {gs:List D->Sd->M Sd} {src:List (Option Nat)} (h:src[i]? = some none) (t:zbd gs src):zbd (zbi (zaB i) gs) src:=fun x sd h0 sd1 h1 e=>by
 cases x with
 | nil=>cases (show R.bad=R.ok sd1 h1 from e)
 | cons d r=>
  have e:gs r (sd.set i (some d)) h0= .ok sd1 h1:=e
  obtain ⟨e1,e2⟩:=t r _ h0 sd1 h1 e
  refine ⟨by rw [e1,qay],fun j d' hj z=>e2 j d' hj ?_⟩
  rw [qak (show i≠j from fun z=>hj (z▸h))]
  exact z
theorem zax.tup {n:Nat} {gs:List D->Sd->M Sd} {src:List (Option Nat)} (t:zbd gs src):zax (zee n gs) src:=fun x sd h0 sd1 h1 _ _ e=>by
 cases x with
 | tup ds=>
  have e:(if ds.length=n then gs ds sd else M.bad) h0= .ok sd1 h1:=e
  by_cases hl:ds.length=n
  ·rw [if_pos hl] at e;exact t _ _ _ _ _ e
  ·rw [if_neg hl] at e;cases (show R.bad=R.ok sd1 h1 from e)
 | _=>cases (show R.bad=R.ok sd1 h1 from e)
section
variable {X:Cx} {E:XE} {scope:Scope} {N:List Str} {src:List (Option Nat)} {tg iter elt:Expr} {ifs:List Expr} {pos:Pos}
noncomputable abbrev SCs (X:Cx) (E:XE) (ifs:List Expr) (t:Sd->M Bool):Prop:=PCs X ifs (zia X.K E t)
theorem zsW:SCs X E [] (fun _=>pure true):=fun pins s σ H Q I ⟨ι,h,sd,L,hh,q⟩=>zo3 pins s σ H Q I (Fin.out hh q)
theorem zsT {c:Expr} {t:Sd->M Bool} (h:ST X E c t):SCs X E [c] t:=zp4 h
theorem blk {K:W.Frag} {g:D->Sd->M Sd} {tc:Sd->M Bool} {te:Sd->M D} {J:It} {ds:List D} {ι:Io} {H:Hp} {h:Hh} {sd:Sd} {σ:L2.St} {Q:VK} {p:Addr} (hk:zax g src) (L:zbZ K ι H sd σ) (hr:za1 K ι H h) (ok:zql K ι H J ds) (hz:ds.length<=sizeLine)
  (q:Fin K E ι H ((do let ys<-zbt (zaT g tc te (zah src sd)) ds;pure (D.lst ys)) h) fun d ι' H'=> ∀ v,Rel K ι' H' d v->Q v H') (hp:H p=none):
  ztC J (ztt K E g) (zia K E tc) (zhU K E te) (bStart src σ) H p fun H'=>Q (.ref p) H':=by
 generalize hP:(fun (d:D) (ι':Io) (H':Hp)=> ∀ v,Rel K ι' H' d v->Q v H')=P at q
 generalize hf:zaT g tc te (zah src sd)=f at q
 have hpx:p∉ι.x:=fun z=>hr.nin hp (.inr z)
 have h0len:(zah src sd).length=src.length:=by unfold zah;rw [qax]
 have h0non: ∀ (i:Nat),src[i]? = some none->(zah src sd)[i]? = some none:=fun i e=>by unfold zah;rw [List.getElem?_map,e];rfl
 refine ⟨fun i m σ' H'=>m=ds.length - i/\i<=ds.length/\ ∃ ι' h' done vs,ι'.x=p::ι.x/\zbu ι H ι'.show H'/\zbZ K ι' H' (zah src sd) σ'/\za1 K ι' H' h'/\H' p=some (.lst vs)/\zal K ι' H' done vs/\done.length<=i/\
     Fin K E ι H ((do let ys<-zbt f (ds.drop i);pure (D.lst (done++ys))) h') P,
   ⟨_,rfl,Nat.zero_le _,ι.hide p,h,[],[],rfl,?_,L.bStart.pass (zeI hp),hr.hide hp,zaL,zal.nil,qaG _,?_⟩,?_⟩
 ·have:=hr.laidS (o:= .lst []) hp
  exact ⟨this.old,this.new,this.hid,this.hidk,this.keep⟩
 ·simpa using q
 rintro i m σ2 H2 ⟨rfl,hi2,ι2,h2,done,vs,hx2,s2,L2,hr2,e2,rl2,dl2,q2⟩
 have ps2:Pass ι H ι2 H2:=⟨s2.old,fun b o hb n=>⟨s2.keep b o hb n,fun z=>by
   rcases z with z | z
   · exact s2.nin hb n (.inl z)
   · rw [hx2] at z
     rcases List.mem_cons.mp z with z | z
     · rw [z,hp] at hb;cases hb
     · exact n (.inr z)⟩⟩
 have hp2:p∈ι2.x:=by rw [hx2];exact qan
 have base: ∀ {ι':Io} {H':Hp},zbu ι2 H2 ι' H'->zbu ι H ι'.show H':=fun t=>s2.trans (t.shown hx2)
 by_cases hlt:i<ds.length
 ·right
  refine ⟨ok.go ι2 H2 i ps2 hlt,fun σ' H'=>i+1<=ds.length/\ ∃ ι' h' done vs,ι'.x=p::ι.x/\zbu ι H ι'.show H'/\zbZ K ι' H' (zah src sd) σ'/\za1 K ι' H' h'/\H' p=some (.lst vs)/\zal K ι' H' done vs/\done.length<=i+1/\
    Fin K E ι H ((do let ys<-zbt f (ds.drop (i+1));pure (D.lst (done++ys))) h') P,fun σ' H' z=>⟨ds.length - (i+1),by omega,rfl,z.1,z.2⟩,fun x H3 y=> ?_⟩
  obtain ⟨gr,d,ed,rd⟩:=ok.yld ι2 H2 h2 i x H3 ps2 hr2 hlt y
  obtain ⟨s3,hr3⟩:=gr.step hr2
  have edr:ds.drop i=d::ds.drop (i+1):=by
   rw [List.drop_eq_getElem_cons hlt]
   rw [List.getElem?_eq_getElem hlt] at ed
   rw [Option.some.inj ed]
  rw [edr] at q2
  have q3:=q2
  have st3:zbu ι2 H2 ι2 H3:=s3
  have e3:H3 p=some (.lst vs):=by rw [s3.hidk p hp2];exact e2
  have eq1:(do let ys<-zbt f (d::ds.drop (i+1));pure (D.lst (done++ys)):M D)=(g d (zah src sd)>>=fun sd1=>tc sd1>>=fun c=>if c=true then (te sd1>>=fun y=>zbt f (ds.drop (i+1))>>=fun ys=>pure (D.lst (done++[y]++ys))) else (zbt f (ds.drop (i+1))>>=fun ys=>pure (D.lst (done++ys)))):=by
   rw [zbt]
   rw [<- hf]
   simp only [zaT,bind_assoc]
   refine congrArg _ (funext fun sd1=> ?_)
   refine congrArg _ (funext fun c=> ?_)
   cases c with
   | true=>simp only [if_true,bind_assoc,pure_bind,List.append_assoc,List.cons_append,List.nil_append]
   | false=>simp only [qaq,if_false,pure_bind]
  rw [eq1] at q3
  refine ⟨ι2,h2,zah src sd,d,L2.step s3,hr3,rd,?_⟩
  refine Fin.bindB q3 (fun ι' H' h' s hr'=>⟨ι'.show,base (s3.trans s),hr'.show⟩) fun sd4 h4 ι4 H4 e4 s4 hr4 q4 σ4 L4=> ?_
  have hx4:ι4.x=p::ι.x:=by rw [s4.hid];exact hx2
  obtain ⟨k1,k2⟩:=hk d _ h2 sd4 h4 h0len h0non e4
  refine ⟨ι4,h4,sd4,L4,hr4,Fin.bindB q4 (fun ι' H' h' s hr'=>⟨ι'.show,base ((s3.trans s4).trans s),hr'.show⟩) fun c h5 ι5 H5 e5 s5 hr5 q5=> ?_⟩
  have hx5:ι5.x=p::ι.x:=by rw [s5.hid];exact hx4
  have sub: ∀ {ι':Io} {H':Hp},zbZ K ι' H' sd4 σ4->zbZ K ι' H' (zah src sd) σ4:=fun {ι' H'} z=>⟨by rw [<- k1];exact z.1,fun j d' e=>z.2 j d' (k2 j d' (fun w=>by rw [h0non j w] at e;cases e) e)⟩
  have st5:zbu ι2 H2 ι5 H5:=(s3.trans s4).trans s5
  cases c with
  | false=>
   exact zq3 ⟨hlt,ι5,h5,done,vs,hx5,base st5,sub (L4.step s5),hr5,by rw [st5.hidk p hp2];exact e2,rl2.step st5,Nat.le_succ_of_le dl2,q5⟩
  | true=>
   refine zq1 ⟨ι5,h5,sd4,L4.step s5,hr5,Fin.bindB q5 (fun ι' H' h' s hr'=>⟨ι'.show,base (st5.trans s),hr'.show⟩) fun yd h6 ι6 H6 e6 s6 hr6 q6 y ry=> ?_⟩
   have st6:zbu ι2 H2 ι6 H6:=st5.trans s6
   have hx6:ι6.x=p::ι.x:=by rw [s6.hid];exact hx5
   have hp6:p∈ι6.x:=by rw [hx6];exact qan
   have e6':H6 p=some (.lst vs):=by rw [st6.hidk p hp2];exact e2
   refine ⟨vs,e6',by rw [<- rl2.length];omega,hlt,ι6,h6,done++[yd],vs++[y],hx6,zhq hp hpx hx2 s2 st6,?_,hr6.hid hp6,zaL,?_,?_,?_⟩
   ·exact ((sub (L4.step s5)).step s6).pass (zdA hp6)
   ·exact ((rl2.step st6).append (zal.cons ry zal.nil)).pass (zdA hp6)
   ·rw [qao,List.length_singleton];omega
   ·exact q6
 ·left
  have e:i=ds.length:=by omega
  subst e
  refine ⟨ok.stop ι2 H2 ps2,?_⟩
  rw [List.drop_length] at q2
  have q3:P (.lst done) ι2.show H2:=by
   have:Fin K E ι H ((pure (D.lst (done++[])):M D) h2) P:=q2
   rw [List.append_nil] at this
   exact this _ _ s2 hr2.show
  rw [<- hP] at q3
  refine q3 (.ref p) ?_
  simp only [Rel]
  refine ⟨p,vs,rfl,⟨e2,fun z=> ?_⟩,rl2.pass zg8⟩
  rcases z with z | z
  ·exact (hr2.hidt p (by rw [hx2];exact qan)).2 z
  ·exact hpx (by have z:p∈ι2.x.tail:=z;rw [hx2] at z;exact z)
noncomputable def zav (fi:Sd->M (List D)) (g:D->Sd->M Sd) (tc:Sd->M Bool) (te:Sd->M D) (src:List (Option Nat)):Sd->M D:=fun sd=>do
 let ds<-fi sd
 fits ds.length
 let ys<-zbt (zaT g tc te (zah src sd)) ds
 pure (D.lst ys)
theorem zlT {K:W.Frag} {fi:Sd->M (List D)} {g:D->Sd->M Sd} {tc:Sd->M Bool} {te:Sd->M D} (hk:zax g src) (σ:L2.St) (H:Hp) (Q:VK) (q:zhU K E (zav fi g tc te src) σ H Q):
  zob (zuk K E fi) (ztt K E g) (zia K E tc) (zhU K E te) src σ H Q:=by
 obtain ⟨ι,h,sd,L,hh,q⟩:=q
 refine ⟨ι,h,sd,L,hh,Fin.bind q fun ds h1 ι1 H1 e1 s1 hr1 q1 J ok p hp=> ?_⟩
 obtain ⟨z,q2⟩:=Fin.fits q1
 exact blk hk (L.step s1) hr1 ok z q2 hp
theorem zpg {fi:Sd->M (List D)} {g:D->Sd->M Sd} {tc:Sd->M Bool} {te:Sd->M D} (B:BOk X scope N src) (hk:zax g src) (hi:SI X E tg iter fi)
  (hg: ∀ s H fp,SG (cxB X scope N s H fp) E tg g) (ht: ∀ s H fp,SCs (cxB X scope N s H fp) E ifs tc) (he: ∀ s H fp,SE (cxB X scope N s H fp) E elt te)
  (hs: ∀ x,foldedSetIterable iter X.env x=pure x:=by intro _;rfl):SE X E (.ListComp elt [⟨tg,iter,ifs,0⟩] scope pos) (zav fi g tc te src):=
 PE.imp (zlU B hi hg ht he hs) (zlT hk)
theorem zkB {fi:Sd->M (List D)} {g:D->Sd->M Sd} {tc:Sd->M Bool} {te:Sd->M D} (i:Nat) {y:Str} {py spos:Pos} (B:BOk X scope N src) (hk:zax g src) (hi:SI X E tg iter fi)
  (hg: ∀ s H fp,SG (cxB X scope N s H fp) E tg g) (ht: ∀ s H fp,SCs (cxB X scope N s H fp) E ifs tc) (he: ∀ s H fp,SE (cxB X scope N s H fp) E elt te)
  (hN:X.N.Nodup) (hy:X.N[i]? = some y) (hx:Loc X.env.scope y) (hf:X.fn y=true\/X.env.scope.names.lookup y=some .local) (hsw:swapsWith (.ListComp elt [⟨tg,iter,ifs,0⟩] scope pos) (some (.Name y py)) spos.line X.env=pure true)
  (hs: ∀ x,foldedSetIterable iter X.env x=pure x:=by intro _;rfl):SS X E (.Assign [.Name y py] (.ListComp elt [⟨tg,iter,ifs,0⟩] scope pos) spos) (fun sd=>do let d<-zav fi g tc te src sd;pure (.nx (sd.set i (some d)))):=by
 refine PS.imp (zj9 B hi hg ht he hN hy hx hsw hf hs) fun D0 σ H ⟨ι,h,sd,L,hh,q⟩=>zlT hk σ H _ ⟨ι,h,sd,L,hh,Fin.bind q fun d h1 ι1 H1 e1 s1 hr1 q1 v rv=> ?_⟩
 exact Fin.out (E:=E) (P:=zjT X.K D0) hr1 q1 _ ((L.step s1).set rv i)
end
section
variable {K:W.Frag} {ι:Io} {H:Hp} {h:Hh} {n:Nat} {a:Addr}
theorem zfe {o:HO} (hn:ι.c[n]? = some (some a)):Pass ι H ι (upd H a o):=⟨fun _ _ z=> .inl z,fun b o' hb nb=>⟨by rw [zau (show b≠a from fun z=>nb (.inl (z▸List.mem_of_getElem? hn)))];exact hb,nb⟩⟩
theorem za1.cellS {o:HO} (hr:za1 K ι H h) (hn:ι.c[n]? = some (some a)):zbu ι H ι (upd H a o):=
 ⟨fun _ _ z=> .inl z,fun _ z=> .inl z,rfl,fun b hb=>zau fun z=>(hr.hidt b hb).2 (z▸List.mem_of_getElem? hn),fun b o' hb nb=>((zfe hn).keep b o' hb nb).1⟩
theorem za1.cellO {c':C} {o':HO} (hr:za1 K ι H h) (hn:ι.c[n]? = some (some a)) (co:CO K ι H c' o'):za1 K ι (upd H a o') (h.set n c'):=by
 refine ⟨by rw [qay];exact hr.len,hr.inj,fun m b c hm hc=> ?_,fun m hm=> ?_,fun b hb=>⟨?_,(hr.hidt b hb).2⟩⟩
 ·by_cases e:n=m
  ·subst e
   rw [hn] at hm
   cases hm
   rw [qaf (by rw [hr.len];exact (qab.mp hn).1)] at hc
   cases hc
   exact ⟨o',zaL,co.pass (zfe hn)⟩
  ·rw [qak e] at hc
   obtain ⟨o2,e2,e3⟩:=hr.at_ m b c hm hc
   have ne:b≠a:=fun z=>by subst z;exact e (hr.inj n m b hn hm)
   exact ⟨o2,by rw [zau ne];exact e2,e3.pass (zfe hn)⟩
 ·have e:n≠m:=fun z=>by subst z;rw [hn] at hm;cases hm
  rw [qak e]
  exact hr.dead m hm
 ·rw [zau (show b≠a from fun z=>(hr.hidt b hb).2 (z▸List.mem_of_getElem? hn))]
  exact (hr.hidt b hb).1
theorem za1.cell {ds':List D} {vs':List V} (hr:za1 K ι H h) (hn:ι.c[n]? = some (some a)) (rl:zal K ι H ds' vs'):za1 K ι (upd H a (.lst vs')) (h.set n (.lst ds')):=hr.cellO hn ⟨vs',rfl,rl⟩
theorem za1.read {ds:List D} {v:V} (hr:za1 K ι H h) (r:Rel K ι H (.cel n) v) (e:h[n]? = some (.lst ds)): ∃ a vs,v= .ref a/\ι.c[n]? = some (some a)/\H a=some (.lst vs)/\zal K ι H ds vs:=by
 simp only [Rel] at r
 obtain ⟨a,e1,r | r⟩:=r
 ·obtain ⟨o,e3,vs,rfl,e4⟩:=hr.at_ n a _ r e
  exact ⟨a,vs,e1,r,e3,e4⟩
 ·rw [hr.dead n r] at e
  cases e
end
noncomputable def zaj (n:Nat):M (List D):=fun h=>match h[n]? with
 | some (.lst ds)=> .ok ds h
 | _=> .bad
noncomputable def zby (n:Nat) (ds:List D):M Unit:=fun h=> .ok () (h.set n (.lst ds))
theorem zci {n:Nat} {h h':Hh} {ds:List D} (e:zaj n h= .ok ds h'):h'=h/\h[n]? = some (.lst ds):=by
 unfold zaj at e
 cases z:h[n]? with
 | none=>rw [z] at e;cases e
 | some c=>
  rw [z] at e
  cases c with
  | lst xs=>cases e;exact ⟨rfl,rfl⟩
  | dic _=>cases e
  | dead=>cases e
noncomputable def ofO {α:Type}:Option α->M α
 | some a=>pure a
 | none=>M.bad
noncomputable def dIx:D->D->M D:=fun x y=>match x,y with
 | .tup ds,.int i=>ofO (atI ds i)
 | .lst ds,.int i=>ofO (atI ds i)
 | .scr ds,.int i=>ofO (atI ds i)
 | .cel n,.int i=>do let ds<-zaj n;ofO (atI ds i)
 | _,_=>M.bad
theorem zgc {K:W.Frag} {ι:Io} {H:Hp} {ds:List D} {vs:List V} {i:Int} {d:D} (rl:zal K ι H ds vs) (e:atI ds i=some d): ∃ v,atI vs i=some v/\Rel K ι H d v:=by
 unfold atI at e ⊢
 rw [<- rl.length]
 cases z:ixN ds.length i with
 | none=>rw [z] at e;cases e
 | some j=>
  rw [z] at e
  have e:ds[j]? = some d:=e
  exact rl.get e
section
variable {X:Cx} {E:XE}
theorem Fin.ofO {α:Type} {K:W.Frag} {ι:Io} {H:Hp} {h:Hh} {o:Option α} {P:α->Io->Hp->Prop} (hr:za1 K ι H h) (q:Fin K E ι H (L3.ofO o h) P): ∃ a,o=some a/\P a ι H:=by
 cases o with
 | none=>exact False.elim q
 | some a=>exact ⟨a,rfl,Fin.out hr q⟩
theorem zvI:IxR X (zcT X.K E dIx):=by
 refine IxR.imp (zqj.or zrv) fun x y H Q ⟨ι,h,d1,d2,r1,r2,hr,q⟩=> ?_
 cases d2 with
 | int i=>
  simp only [Rel] at r2
  cases d1 with
  | tup ds=>
   obtain ⟨a,vs,e,h1,h2⟩:=zcm r1
   obtain ⟨d,e1,q⟩:=Fin.ofO hr q
   obtain ⟨v,e2,rv⟩:=zgc h2 e1
   exact .inr ⟨a,vs,i,v,e,r2,h1,e2,q v rv⟩
  | lst ds=>
   obtain ⟨a,vs,e,h1,h2⟩:=zc4 r1
   obtain ⟨d,e1,q⟩:=Fin.ofO hr q
   obtain ⟨v,e2,rv⟩:=zgc h2 e1
   exact .inl ⟨a,vs,i,v,e,r2,h1,e2,q v rv⟩
  | scr ds=>
   obtain ⟨a,vs,e,h1,h2⟩:=zkk r1
   obtain ⟨d,e1,q⟩:=Fin.ofO hr q
   obtain ⟨v,e2,rv⟩:=zgc h2 e1
   exact .inl ⟨a,vs,i,v,e,r2,h1,e2,q v rv⟩
  | cel n=>
   have q:Fin X.K E ι H ((zaj n>>=fun ds=>L3.ofO (atI ds i)) h) _:=q
   have q':Fin X.K E ι H (M.bind (zaj n) (fun ds=>L3.ofO (atI ds i)) h) _:=q
   unfold M.bind at q'
   cases z:zaj n h with
   | bad=>rw [z] at q';exact False.elim q'
   | exc c h'=>unfold zaj at z;split at z<;>cases z
   | ok ds h'=>
    rw [z] at q'
    obtain ⟨rfl,z2⟩:=zci z
    obtain ⟨a,vs,e,hn,hH,rl⟩:=hr.read r1 z2
    obtain ⟨d,e1,q⟩:=Fin.ofO hr q'
    obtain ⟨v,e2,rv⟩:=zgc rl e1
    exact .inl ⟨a,vs,i,v,e,r2,SqL.of hH,e2,q v rv⟩
  | _=>exact False.elim q
 | _=>cases d1<;>exact False.elim q
noncomputable def zkN (o i d:D):M Unit:=match o,i with
 | .cel n,.int k=>do
  let ds<-zaj n
  let j<-ofO (ixN ds.length k)
  zby n (ds.set j d)
 | _,_=>M.bad
theorem zrX {o i:Expr} {pos:Pos} {fo fi:Sd->M D} (hp: ∀ {t:ztu},zqa X t->PG X (.Subscript o i pos) (zvo (zhU X.K E fo) (zhU X.K E fi) t)):
  SG X E (.Subscript o i pos) (fun d sd=>do let x<-fo sd;let y<-fi sd;zkN x y d;pure sd):=by
 refine PG.imp (hp znD) fun v σ H Q ⟨ι,h,sd,d,L,hr,rd,q⟩=>⟨ι,h,sd,L,hr,Fin.bind q fun x h1 ι1 H1 e1 s1 hr1 q1 xv rx=> ?_⟩
 refine ⟨ι1,h1,sd,L.step s1,hr1,Fin.bind q1 fun y h2 ι2 H2 e2 s2 hr2 q2 yv ry=> ?_⟩
 cases x with
 | cel n=>
  cases y with
  | int k=>
   have rx2:=rx.step s2
   have q3:Fin X.K E ι2 H2 ((zaj n>>=fun ds=>(ofO (ixN ds.length k)>>=fun j=>zby n (ds.set j d)>>=fun _=>pure sd)) h2) (fun sd' ι' H'=> ∀ σ',zbZ X.K ι' H' sd' σ'->Q σ' H'):=by
    have e:(do zkN (.cel n) (.int k) d;pure sd:M Sd)=(zaj n>>=fun ds=>(ofO (ixN ds.length k)>>=fun j=>zby n (ds.set j d)>>=fun _=>pure sd)):=by
     show ((zaj n>>=fun ds=>(ofO (ixN ds.length k)>>=fun j=>zby n (ds.set j d)))>>=fun _=>pure sd)=_
     simp only [bind_assoc]
    rw [<- e]
    exact q2
   have q':Fin X.K E ι2 H2 (M.bind (zaj n) (fun ds=>(ofO (ixN ds.length k)>>=fun j=>zby n (ds.set j d)>>=fun _=>pure sd)) h2) _:=q3
   unfold M.bind at q'
   cases z:zaj n h2 with
   | bad=>rw [z] at q';exact False.elim q'
   | exc c h'=>unfold zaj at z;split at z<;>cases z
   | ok ds h'=>
    rw [z] at q'
    obtain ⟨rfl,z2⟩:=zci z
    obtain ⟨a,vs,e,hn,hH,rl⟩:=hr2.read rx2 z2
    simp only [Rel] at ry
    have q4:Fin X.K E ι2 H2 (M.bind (ofO (ixN ds.length k)) (fun j=>zby n (ds.set j d)>>=fun _=>pure sd) h') _:=q'
    unfold M.bind at q4
    cases z3:ixN ds.length k with
    | none=>rw [z3] at q4;exact False.elim q4
    | some j=>
     rw [z3] at q4
     have q5:Fin X.K E ι2 H2 (R.ok sd (h'.set n (.lst (ds.set j d)))) (fun sd' ι' H'=> ∀ σ',zbZ X.K ι' H' sd' σ'->Q σ' H'):=q4
     refine ⟨a,vs,k,j,e,ry,hH,by rw [<- rl.length];exact z3,?_⟩
     have rd2:=(rd.step s1).step s2
     exact q5 ι2 _ (hr2.cellS hn) (hr2.cell hn (rl.set rd2 j)) σ (((L.step s1).step s2).step (hr2.cellS hn))
  | _=>exact False.elim q2
 | _=>cases y<;>exact False.elim q2
end
noncomputable abbrev E0x:XE:=fun _ _=>False
noncomputable def zcn (K:W.Frag) (n:Nat) (F:List D->M D):Sp:=fun vs H Q _=>vs.length=n/\ ∃ ι h ds,zal K ι H ds vs/\za1 K ι H h/\Fin K E0x ι H (F ds h) fun d ι' H'=> ∀ v,Rel K ι' H' d v->Q v H'
noncomputable def zfC (n:Nat) (ds:List D):Sd:=ds.map some++List.replicate (n - ds.length) none
noncomputable def zcV:Out->M D
 | .nx _=>pure .non
 | .rt d=>pure d
 | _=>M.bad
noncomputable def zcZ (n:Nat) (G:Sd->M Out) (ds:List D):M D:=do let o<-G (zfC n ds);zcV o
theorem zdT {K:W.Frag} {ι:Io} {H:Hp} {ds:List D} {vs:List V} {N:List Str} (h:zal K ι H ds vs):zbZ K ι H (zfC N.length ds) (L2.zdR N vs):=by
 have hl:=h.length
 unfold zfC L2.zdR
 refine ⟨by simp [hl],fun i d e=> ?_⟩
 by_cases hi:i<ds.length
 ·rw [qac (by simpa using hi),List.getElem?_map] at e
  cases z:ds[i]? with
  | none=>rw [z] at e;cases e
  | some d'=>
   rw [z] at e
   cases e
   obtain ⟨v,h1,h2⟩:=h.get z
   exact ⟨v,by rw [qac (by rw [qax, <-hl];exact hi),List.getElem?_map,h1];rfl,h2⟩
 ·rw [qaa (by simpa using hi),List.getElem?_replicate] at e
  split at e<;>cases e
section
variable {P:Program} {w:World} {K:W.Frag} {mg:Str->Option Value} {base:Heap}
theorem zb0 {x qual:Str} {st:Stmt} {f:Addr} {fd:FuncData} {N ps:List Str} {k:Nat} {G:Sd->M Out} (F:Fun K x qual st f fd) (S:zas N ps (zae st))
  (hb: ∀ (cdv:Value) (A:Around) (outer:List Env) (s:Shared) (H:Hp) (E:XK),zda k (A.deeper (envOfC qual (zae st) s.heap.objs.size f cdv))->SSs (zhC CX0 P w K mg base N qual (zae st) f cdv A outer s H E).nox E0x (zcf st) G):
  zbG P w K mg base CX0 (k+1) f fd ps (zcn K ps.length (zcZ N.length G)):=by
 refine F.ok S (fun vs H Q E h=>h.1) fun cdv A outer s H vs Q E hr ⟨hl,ι,h,ds,rl,hh,q⟩=>⟨_,hb cdv A outer s H E hr,ι,h,zfC N.length ds,zdT rl,hh,?_⟩
 refine Fin.bind q fun o h1 ι1 H1 e1 s1 hr1 q1=> ?_
 cases o with
 | nx sd=>exact fun σ' _=>Fin.out hr1 q1 _ (by simp [Rel])
 | rt d=>exact fun v rv=>Fin.out hr1 q1 v rv
 | bk sd=>exact False.elim q1
 | ct sd=>exact False.elim q1
end
section
variable {X:Cx} {e:Expr} {es:List Expr} {pos p:Pos}
noncomputable def zat (n:Nat) (F:List D->M D) (ds:List D):M D:=if ds.length=n then F ds else M.bad
theorem zpw {k:Nat} {f:Addr} {fd:FuncData} {ps:List Str} {n:Nat} {F:List D->M D} {fs:Sd->M (List D)} {x:Str} (G:zbG X.prog X.w X.K X.mg X.base CX0 k f fd ps (zcn X.K n F)) (hr:zda k X.A) (hg:Gl X x) (hm:X.mg x=some (.ref f)) (hk:W.keepIn X.K (.ref f)=true) (hb:zaF X.K fd ps [])
  (ha:SA X E0x (e::es) fs) (hdb:(x==("__debug__":Str))=false:=by decide) (he:starEach (e::es) X.env=(false,eval e X.env)::starEach es X.env:=by rfl) (hpl:(backTo pos (starEach es X.env)).any (·.1)=false:=by rfl):
  SE X E0x (.Call (.Name x p) (e::es) [] pos) (fun sd=>do let ds<-fs sd;zat n F ds):=by
 refine PE.imp (zhS G hr hg hm hk hb (dvs:=[]) .nil (E:=fun _ _ _=>False) zro ha hdb he hpl) fun σ H Q ⟨ι,h,sd,L,hh,q⟩=>⟨ι,h,sd,L,hh,Fin.bind q fun ds h1 ι1 H1 e1 s1 hr1 q1 vs rv=> ?_⟩
 show zcn X.K n F (vs++[]) H1 Q _
 rw [List.append_nil]
 unfold zat at q1
 by_cases hl:ds.length=n
 ·rw [if_pos hl] at q1
  exact ⟨by rw [<- rv.length];exact hl,ι1,h1,ds,rv,hr1,q1⟩
 ·rw [if_neg hl] at q1
  exact False.elim q1
end
section
variable {X:Cx} {E:XE}
theorem Fin.guard {α:Type} {K:W.Frag} {ι:Io} {H:Hp} {h:Hh} {c:Prop} [Decidable c] {f:M α} {P:α->Io->Hp->Prop} (q:Fin K E ι H ((if c then f else M.bad) h) P):c/\Fin K E ι H (f h) P:=by
 by_cases hc:c
 ·rw [if_pos hc] at q;exact ⟨hc,q⟩
 ·rw [if_neg hc] at q;exact False.elim q
theorem znZ:OpR X (binaryOp .Add) (fun x y H Q=> ∃ a b ys,x= .ref a/\y= .ref b/\SqT X.K H a []/\SqT X.K H b ys/\Q (.ref b) H):=by
 intro pins s σ H x y v u Q I rx ry h
 obtain ⟨a,b,ys,rfl,rfl,ha,hb,q⟩:=h
 cases rx
 cases ry
 obtain ⟨its,r1,p1,_⟩:=I.tuple ha
 obtain ⟨its2,r2,p2,_⟩:=I.tuple hb
 cases r1
 obtain ⟨⟨cls,dd,data,sl⟩,ho,hc,n,hd⟩:=id p1
 obtain ⟨⟨cls2,dd2,data2,sl2⟩,ho2,hc2,n2,hd2⟩:=id p2
 simp only at hc hd hc2 hd2
 subst hc hd hc2 hd2
 exact concat_meets ⟨_,ho,rfl⟩ ⟨_,ho2,rfl⟩ noFill_tuple_add seq_tuple_add PySem.F.slot_tuple_add PySem.F.entry_tuple_add (PySem.F.args_tuple_add_2 _ _)
   (tuple_addW0 a b _ _ n n2 dd dd2 sl sl2 (by simp)) ⟨ho,ho2,⟨.ref b,H,I,rfl,q⟩⟩
noncomputable def zdZ (x y:D):M D:=match x,y with
 | .int i,.int j=>pure (.int (i+j))
 | .tup xs,.tup ys=>do fits (xs.length+ys.length);pure (.tup (xs++ys))
 | .lst xs,.lst ys=>do fits (xs.length+ys.length);pure (.lst (xs++ys))
 | .str x,.str y=>do fits (x.length+y.length);pure (.str (x++y))
 | _,_=>M.bad
theorem zaO:OpR X (binaryOp .Add) (zcT X.K E zdZ):=by
 refine OpR.imp (zrt.or (znZ.or (zo6.or (zs0.or zjZ)))) fun x y H Q ⟨ι,h,d1,d2,r1,r2,hr,q⟩=> ?_
 unfold zdZ at q
 split at q
 ·simp only [Rel] at r1 r2
  exact .inl ⟨_,_,r1,r2,Fin.out hr q _ (by simp [Rel])⟩
 ·rename_i xs ys
  right
  obtain ⟨a,vs,e,h1,h2⟩:=zcm r1
  obtain ⟨b,ws,e',h1',h2'⟩:=zcm r2
  obtain ⟨z,q⟩:=Fin.fits q
  cases xs with
  | nil=>
   simp only [zal] at h2
   subst h2
   exact .inl ⟨a,b,ws,e,e',h1,h1',Fin.out hr q _ (by rw [<- e'];exact r2)⟩
  | cons x0 xr=>
   refine .inr (.inl ⟨a,b,vs,ws,e,e',h1,h1',fun z=> ?_,by rw [<- h2.length, <-h2'.length];exact z,fun z=> ?_,fun z p hp=>zqS hr (h2.append h2') q hp⟩)
   ·subst z
    have:=h2.length
    cases this
   ·subst z
    have:=h2'.length
    cases ys with
    | nil=>rw [List.append_nil] at q;exact Fin.out hr q _ (by rw [<- e];exact r1)
    | cons _ _=>cases this
 ·rename_i xs ys
  right;right;right;left
  simp only [Rel] at r1 r2
  obtain ⟨a,vs,e,h1,h2⟩:=r1
  obtain ⟨b,ws,e',h1',h2'⟩:=r2
  obtain ⟨z,q⟩:=Fin.fits q
  exact ⟨a,b,vs,ws,e,e',h1.1,h1'.1,by rw [<- h2.length, <-h2'.length];exact z,fun p hp=>zqI hr (h2.append h2') q hp⟩
 ·simp only [Rel] at r1 r2
  obtain ⟨z,q⟩:=Fin.fits q
  exact .inr (.inr (.inr (.inr ⟨_,_,r1,r2,z,Fin.out hr q _ (by simp [Rel])⟩)))
 ·exact False.elim q
noncomputable def dII (C:Int->Int->Bool) (g:Int->Int->D) (x y:D):M D:=match x,y with
 | .int i,.int j=>if C i j=true then pure (g i j) else M.bad
 | _,_=>M.bad
theorem zjK {f:Value->Value->Sem Value} {C:Int->Int->Bool} {C':Int->Int->Prop} {g:Int->Int->V} {g':Int->Int->D} (ho:OpR X f (rI C' g)) (hc: ∀ i j,C i j=true->C' i j) (hg: ∀ i j ι H,Rel X.K ι H (g' i j) (g i j)):OpR X f (zcT X.K E (dII C g')):=by
 refine OpR.imp ho fun x y H Q ⟨ι,h,d1,d2,r1,r2,hr,q⟩=> ?_
 unfold dII at q
 split at q
 ·simp only [Rel] at r1 r2
  obtain ⟨c,q⟩:=Fin.guard q
  exact ⟨_,_,r1,r2,hc _ _ c,Fin.out hr q _ (hg _ _ _ _)⟩
 ·exact False.elim q
theorem zfv {f:Value->Value->Sem Value} {g:Int->Int->V} {g':Int->Int->D} (ho:OpR X f (rI0 g)) (hg: ∀ i j ι H,Rel X.K ι H (g' i j) (g i j)):OpR X f (zcT X.K E (dII (fun _ _=>true) g')):=by
 refine OpR.imp ho fun x y H Q ⟨ι,h,d1,d2,r1,r2,hr,q⟩=> ?_
 unfold dII at q
 split at q
 ·simp only [Rel] at r1 r2
  obtain ⟨c,q⟩:=Fin.guard q
  exact ⟨_,_,r1,r2,Fin.out hr q _ (hg _ _ _ _)⟩
 ·exact False.elim q
noncomputable def zoK:=dII (fun _ _=>true) fun i j=> .int (i - j)
theorem zdI:OpR X (binaryOp .Sub) (zcT X.K E zoK):=zfv zrK fun _ _ _ _=>by simp [Rel]
noncomputable def za0 (i:Int):Bool:=decide (-(2^64)<i) && decide (i<2^64)
theorem zcz {i:Int} (h:za0 i=true): -(2^64)<i/\i<2^64:=by unfold za0 at h;simpa using h
theorem zmN:OpR X (binaryOp .FloorDiv) (rI (fun _ j=>0<j/\j<2^64) fun i j=> .int (i / j)):=opI fun i j _ _ _ _ _ hc q=>by
 refine floordiv_int (by omega) (by rw [Int.fdiv_eq_ediv_of_nonneg _ (by omega)];exact q) (.inl (PyProof.noPylong_of_log2 ?_))
 have h1:j.natAbs<2^64:=by omega
 have h0:j.natAbs≠0:=by omega
 exact Nat.lt_trans ((Nat.log2_lt h0).mpr h1) (by decide)
noncomputable def zpl:=dII (fun _ j=>decide (0<j) && decide (j<2^64)) fun i j=> .int (i / j)
theorem znW:OpR X (binaryOp .FloorDiv) (zcT X.K E zpl):=zjK zmN (fun i j h=>by simpa using h) fun _ _ _ _=>by simp [Rel]
noncomputable def zqU:=dII (fun _ j=>decide (0<j)) fun i j=> .int (i % j)
theorem zgh:OpR X (binaryOp .Mod) (zcT X.K E zqU):=zjK zrd (fun i j h=>by simpa using h) fun _ _ _ _=>by simp [Rel]
noncomputable def zqT (i j:Int):Bool:=decide (0<=j) && decide (j<=1000000) && decide (i.natAbs<2^64)
noncomputable def ztG:=dII zqT fun i j=> .int (i^j.toNat)
theorem zi7 {i j:Int} (h:zqT i j=true):ztA i j:=by unfold zqT at h;simpa [ztA,and_assoc] using h
theorem zp9:OpR X (binaryOp .Pow) (zcT X.K E ztG):=zjK zr2 (fun _ _=>zi7) fun _ _ _ _=>by simp [Rel]
noncomputable def zuV:=dII zqT fun i j=> .int (i*2^j.toNat)
theorem zpc:OpR X (binaryOp .LShift) (zcT X.K E zuV):=zjK zrV (fun _ _=>zi7) fun _ _ _ _=>by simp [Rel]
noncomputable def ztP:=dII (fun _ j=>decide (0<=j)) fun i j=> .int (i / 2^j.toNat)
theorem zo1:OpR X (binaryOp .RShift) (zcT X.K E ztP):=zjK zs5 (fun i j h=>by simpa using h) fun _ _ _ _=>by simp [Rel]
noncomputable def zvz:=dII (fun _ _=>true) fun i j=> .int (Builtin.bitAnd i j)
noncomputable def dOr:=dII (fun _ _=>true) fun i j=> .int (Builtin.bitOr i j)
theorem zsl:OpR X (binaryOp .BitOr) (zcT X.K E dOr):=zfv zvf fun _ _ _ _=>by simp [Rel]
noncomputable def dLt:=dII (fun _ _=>true) fun i j=> .bl (decide (i<j))
theorem zku:OpR X (compareOp .Lt) (zcT X.K E dLt):=zfv ztM fun _ _ _ _=>by simp [Rel]
noncomputable def dLe:=dII (fun _ _=>true) fun i j=> .bl (decide (i<=j))
theorem zsF:OpR X (compareOp .LtE) (zcT X.K E dLe):=zfv zu2 fun _ _ _ _=>by simp [Rel]
noncomputable def dGt:=dII (fun _ _=>true) fun i j=> .bl (decide (j<i))
theorem zsv:OpR X (compareOp .Gt) (zcT X.K E dGt):=zfv zuN fun _ _ _ _=>by simp [Rel]
noncomputable def dGe:=dII (fun _ _=>true) fun i j=> .bl (decide (j<=i))
theorem zoE:OpR X (compareOp .GtE) (zcT X.K E dGe):=zfv ztW fun _ _ _ _=>by simp [Rel]
noncomputable def zol:D->M D
 | .int i=>pure (.int (-i))
 | _=>M.bad
theorem zq4 {a:Expr} {pos:Pos} {fa:Sd->M D} (ha:SE X E a fa):SE X E (.UnaryOp .USub a pos) (fun sd=>do let x<-fa sd;zol x):=by
 refine PE.imp (zud zsr ha) fun σ H Q ⟨ι,h,sd,L,hh,q⟩=>⟨ι,h,sd,L,hh,Fin.bind q fun d h1 ι1 H1 e1 s1 hr1 q1 v rv=> ?_⟩
 cases d with
 | int i=>simp only [Rel] at rv;exact ⟨i,rv,Fin.out hr1 q1 _ (by simp [Rel])⟩
 | _=>exact False.elim q1
mutual
noncomputable def pd:D->Option PyData
 | .non=>some .none
 | .bl b=>some (.bool b)
 | .int i=>some (.int i)
 | .str x=>some (.str x)
 | .tup xs=>(pdL xs).map .tuple
 | .lst xs=>(pdL xs).map .list
 | .scr xs=>(pdL xs).map .list
 | _=>none
noncomputable def pdL:List D->Option (List PyData)
 | []=>some []
 | x::xs=>match pd x,pdL xs with
  | some a,some r=>some (a::r)
  | _,_=>none
end
mutual
theorem ze3 {pins:List (Addr×Obj)} {σ:L2.St} {H:Hp} {s:Shared} {ι:Io} (I:Inv X pins σ H s): ∀ {d:D} {v:V} {u:Value} {p:PyData},Rel X.K ι H d v->zbj v u->pd d=some p-> ∃ as,Reads s.heap u p as
 | .non,v,u,p,r,ru,e=>by simp only [Rel] at r;subst r;cases ru;cases e;exact ⟨_,.none⟩
 | .bl b,v,u,p,r,ru,e=>by simp only [Rel] at r;subst r;cases ru;cases e;exact ⟨_,.bool _⟩
 | .int i,v,u,p,r,ru,e=>by simp only [Rel] at r;subst r;obtain ⟨t,rfl⟩:=ru;cases e;exact ⟨_,.int _ _⟩
 | .str i,v,u,p,r,ru,e=>by simp only [Rel] at r;subst r;obtain ⟨t,rfl⟩:=ru;cases e;exact ⟨_,.str _ _⟩
 | .tup ds,v,u,p,r,ru,e=>by
  obtain ⟨a,vs,rfl,h1,h2⟩:=zcm r
  cases ru
  obtain ⟨its,rv,pl,_⟩:=I.tuple h1
  obtain ⟨o,ho,hc,n,hd⟩:=pl
  unfold pd at e
  cases z:pdL ds with
  | none=>rw [z] at e;cases e
  | some ps=>
   rw [z] at e;cases e
   obtain ⟨as,q⟩:=zha I h2 rv z
   exact ⟨_,.tuple ho hc hd (by simpa using q)⟩
 | .lst ds,v,u,p,r,ru,e=>by
  obtain ⟨a,vs,rfl,h1,h2⟩:=zc4 r
  cases ru
  obtain ⟨its,rv,pl,_⟩:=I.list h1
  obtain ⟨o,ho,hc,n,hd⟩:=pl.isList
  unfold pd at e
  cases z:pdL ds with
  | none=>rw [z] at e;cases e
  | some ps=>
   rw [z] at e;cases e
   obtain ⟨as,q⟩:=zha I h2 rv z
   exact ⟨_,.list ho hc hd (by simpa using q)⟩
 | .scr ds,v,u,p,r,ru,e=>by
  obtain ⟨a,vs,rfl,h1,h2⟩:=zkk r
  cases ru
  obtain ⟨its,rv,pl,_⟩:=I.list h1
  obtain ⟨o,ho,hc,n,hd⟩:=pl.isList
  unfold pd at e
  cases z:pdL ds with
  | none=>rw [z] at e;cases e
  | some ps=>
   rw [z] at e;cases e
   obtain ⟨as,q⟩:=zha I h2 rv z
   exact ⟨_,.list ho hc hd (by simpa using q)⟩
 | .cel n,_,_,_,_,_,e=>by cases e
 | .set xs,_,_,_,_,_,e=>by cases e
 | .dct,_,_,_,_,_,e=>by cases e
 | .fn _,_,_,_,_,_,e=>by cases e
 | .exn _,_,_,_,_,_,e=>by cases e
theorem zha {pins:List (Addr×Obj)} {σ:L2.St} {H:Hp} {s:Shared} {ι:Io} (I:Inv X pins σ H s): ∀ {ds:List D} {vs:List V} {us:List Value} {ps:List PyData},zal X.K ι H ds vs->zaV vs us->pdL ds=some ps-> ∃ as,ReadsAll s.heap us ps as
 | [],vs,us,ps,r,ru,e=>by simp only [zal] at r;subst r;cases ru;cases e;exact ⟨_,.nil⟩
 | d::ds,vs,us,ps,r,ru,e=>by
  simp only [zal] at r
  obtain ⟨v,vr,rfl,r1,r2⟩:=r
  cases ru with
  | cons ru1 ru2=>
   unfold pdL at e
   cases z:pd d with
   | none=>rw [z] at e;cases e
   | some a=>
    cases z2:pdL ds with
    | none=>rw [z,z2] at e;cases e
    | some b=>
     rw [z,z2] at e
     cases e
     obtain ⟨as,q1⟩:=ze3 I r1 ru1 z
     obtain ⟨bs,q2⟩:=zha I r2 ru2 z2
     exact ⟨_,.cons q1 q2⟩
end
noncomputable def zew (a b:PyData):Bool:=a.canLay0 && b.canLay0 && decide (min a.depth b.depth<=60)
noncomputable def znH (neg:Bool) (x y:D):M D:=match pd x,pd y with
 | some a,some b=>if zew a b=true then pure (.bl (if neg then !PyData.eqv a b else PyData.eqv a b)) else M.bad
 | _,_=>M.bad
noncomputable def dEq:=znH false
noncomputable def dNe:=znH true
theorem zek {a b:PyData} (h:zew a b=true):a.canLay0=true/\b.canLay0=true/\min a.depth b.depth<=60:=by unfold zew at h;simpa [and_assoc] using h
theorem zjm {K:W.Frag} {ι:Io} {H:Hp} {h:Hh} {neg:Bool} {x y:D} {P:D->Io->Hp->Prop} (q:Fin K E ι H (znH neg x y h) P): ∃ a b,pd x=some a/\pd y=some b/\zew a b=true/\Fin K E ι H ((pure (.bl (if neg then !PyData.eqv a b else PyData.eqv a b)):M D) h) P:=by
 unfold znH at q
 cases e1:pd x with
 | none=>rw [e1] at q;exact False.elim q
 | some a=>
  cases e2:pd y with
  | none=>rw [e1,e2] at q;exact False.elim q
  | some b=>
   rw [e1,e2] at q
   obtain ⟨c,q⟩:=Fin.guard q
   exact ⟨a,b,rfl,rfl,c,q⟩
theorem zd8 (hu:X.A.units+60<cLine):OpR X (compareOp .Eq) (zcT X.K E dEq):=by
 intro pins s σ H x y v u Q I rx ry ⟨ι,h,d1,d2,r1,r2,hr,q⟩
 obtain ⟨a,b,e1,e2,c,q2⟩:=zjm q
 obtain ⟨c1,c2,c3⟩:=zek c
 obtain ⟨as,ra⟩:=ze3 I r1 rx e1
 obtain ⟨bs,rb⟩:=ze3 I r2 ry e2
 exact SeqAt.compareEq_reads ra rb c1 c2 (by omega) ⟨.bl _,H,I,rfl,Fin.out hr q2 (.bl _) (by simp [Rel])⟩
theorem zrD (hu:X.A.units+60<cLine):OpR X (compareOp .NotEq) (zcT X.K E dNe):=by
 intro pins s σ H x y v u Q I rx ry ⟨ι,h,d1,d2,r1,r2,hr,q⟩
 obtain ⟨a,b,e1,e2,c,q2⟩:=zjm q
 obtain ⟨c1,c2,c3⟩:=zek c
 obtain ⟨as,ra⟩:=ze3 I r1 rx e1
 obtain ⟨bs,rb⟩:=ze3 I r2 ry e2
 exact SeqAt.compareNe_reads ra rb c1 c2 (by omega) ⟨.bl _,H,I,rfl,Fin.out hr q2 (.bl _) (by simp [Rel])⟩
noncomputable def zmh (a:PyData) (xs:List PyData):Bool:=a.canLay0 && PyData.canLayAll0 xs && decide (min (PyData.depthAll xs) a.depth<=50)
theorem ziG {a:PyData} {xs:List PyData} (h:zmh a xs=true):a.canLay0=true/\PyData.canLayAll0 xs=true/\min (PyData.depthAll xs) a.depth<=50:=by unfold zmh at h;simpa [and_assoc] using h
noncomputable def zmH (neg:Bool) (x c:D):M D:=match pd x,c with
 | some a,.tup ds=>match pdL ds with
  | some xs=>if zmh a xs=true then pure (.bl (if neg then !xs.any (fun y=>PyData.eqv y a) else xs.any fun y=>PyData.eqv y a)) else M.bad
  | none=>M.bad
 | some a,.lst ds=>match pdL ds with
  | some xs=>if zmh a xs=true then pure (.bl (if neg then !xs.any (fun y=>PyData.eqv y a) else xs.any fun y=>PyData.eqv y a)) else M.bad
  | none=>M.bad
 | _,_=>M.bad
noncomputable def dIn:=zmH false
noncomputable def zi5:=zmH true
theorem zje {K:W.Frag} {ι:Io} {H:Hp} {h:Hh} {neg:Bool} {x c:D} {P:D->Io->Hp->Prop} (q:Fin K E ι H (zmH neg x c h) P): ∃ a ds xs,pd x=some a/\pdL ds=some xs/\(c= .tup ds\/c= .lst ds)/\zmh a xs=true/\
  Fin K E ι H ((pure (.bl (if neg then !xs.any (fun y=>PyData.eqv y a) else xs.any fun y=>PyData.eqv y a)):M D) h) P:=by
 unfold zmH at q
 cases e1:pd x with
 | none=>rw [e1] at q;exact False.elim q
 | some a=>
  rw [e1] at q
  cases c with
  | tup ds=>
   dsimp only at q
   cases e2:pdL ds with
   | none=>rw [e2] at q;exact False.elim q
   | some xs=>
    rw [e2] at q
    obtain ⟨c,q⟩:=Fin.guard q
    exact ⟨a,ds,xs,rfl,e2,.inl rfl,c,q⟩
  | lst ds=>
   dsimp only at q
   cases e2:pdL ds with
   | none=>rw [e2] at q;exact False.elim q
   | some xs=>
    rw [e2] at q
    obtain ⟨c,q⟩:=Fin.guard q
    exact ⟨a,ds,xs,rfl,e2,.inr rfl,c,q⟩
  | _=>exact False.elim q
theorem zfb (hu:X.A.units+60<cLine):OpR X (compareOp .In) (zcT X.K E dIn):=by
 intro pins s σ H x y v u Q I rx ry ⟨ι,h,d1,d2,r1,r2,hr,q⟩
 obtain ⟨a,ds,xs,e1,e2,ec,c,q2⟩:=zje q
 obtain ⟨c1,c2,c3⟩:=ziG c
 obtain ⟨as,ra⟩:=ze3 I r1 rx e1
 rcases ec with rfl | rfl
 ·obtain ⟨bs,rb⟩:=ze3 I r2 ry (p:= .tuple xs) (by unfold pd;rw [e2];rfl)
  exact SeqAt.in_tuple_reads rb ra c2 c1 (by omega) ⟨.bl _,H,I,rfl,Fin.out hr q2 (.bl _) (by simp [Rel])⟩
 ·obtain ⟨bs,rb⟩:=ze3 I r2 ry (p:= .list xs) (by unfold pd;rw [e2];rfl)
  exact SeqAt.in_list_reads rb ra c2 c1 (by omega) ⟨.bl _,H,I,rfl,Fin.out hr q2 (.bl _) (by simp [Rel])⟩
theorem zhl (hu:X.A.units+60<cLine):OpR X (compareOp .NotIn) (zcT X.K E zi5):=by
 intro pins s σ H x y v u Q I rx ry ⟨ι,h,d1,d2,r1,r2,hr,q⟩
 obtain ⟨a,ds,xs,e1,e2,ec,c,q2⟩:=zje q
 obtain ⟨c1,c2,c3⟩:=ziG c
 obtain ⟨as,ra⟩:=ze3 I r1 rx e1
 rcases ec with rfl | rfl
 ·obtain ⟨bs,rb⟩:=ze3 I r2 ry (p:= .tuple xs) (by unfold pd;rw [e2];rfl)
  exact SeqAt.notIn_tuple_reads rb ra c2 c1 (by omega) ⟨.bl _,H,I,rfl,Fin.out hr q2 (.bl _) (by simp [Rel])⟩
 ·obtain ⟨bs,rb⟩:=ze3 I r2 ry (p:= .list xs) (by unfold pd;rw [e2];rfl)
  exact SeqAt.notIn_list_reads rb ra c2 c1 (by omega) ⟨.bl _,H,I,rfl,Fin.out hr q2 (.bl _) (by simp [Rel])⟩
end
end L3
namespace HT
open PySem PySem.Spec PyProof.Rows L2
section
variable {prog:Program} {w:World} {A:Around} {E:Value->Shared->Prop} {s:Shared}
theorem zdg {t sl:Addr} {items:Array Value} {vl vu:Value} {lo hi:Option Int} {Q:Value->Shared->Prop} (ht:IsTup s.heap t items) (hs:s.heap.IsSliceOf sl vl vu .none) (pl:IsPart vl lo) (pu:IsPart vu hi)
  (hw:sIx items.size 0 lo=0/\sIx items.size items.size hi=items.size) (h:Q (.ref t) s):wpAny (model prog w) A (getItem (.ref t) (.ref sl)) Q E s:=by
 obtain ⟨os,hos,hcs,hds⟩:=id hs
 have hTs:s.TypeIs (.ref sl) "slice":=⟨os,hos,hcs⟩
 unfold getItem
 try with_reducible refine qaB ?_
 first | refine qaH (qaI ?_) | skip
 refine qaH (wpAny_sequenceKey ht.typeIs (by decide) ?_)
 refine qaH (wpAny_callSpecial?_slot (name:=Str.ofString "__getitem__") ht.typeIs PyProof.Rows.slot_tuple_getitem
   (wpAny_call_entry PyProof.Rows.slot_tuple_getitem ht.typeIs entry_tuple_getitem ?_ (args_tuple_getitem _ _)))
 show wpAny _ _ (Builtin.Tuple.tupleItemsOf (.ref t)>>=_) _ _ s
 refine qaH (tupleItemsOf_ ht ?_)
 refine qaH (wpAny_typeOf hTs ?_)
 rw [if_pos (by decide)]
 refine qaH (zcC hs pl pu ?_)
 show wpAny _ _ (if (((sIx items.size 0 lo:Nat):Int)==0 && (1:Int)==1 && (sIx items.size items.size hi - sIx items.size 0 lo)==items.size)=true then _ else _) _ _ s
 rw [hw.1,hw.2,if_pos (by simp)]
 refine qaH (m:=Builtin.Tuple.tupleIsExact _) (qaH (wpAny_typeOf ht.typeIs (qaI ?_)))
 rw [if_pos (by decide)]
 refine qaH (wpAny_rule ?_)
 exact qaI ⟨_,rfl,qaI h⟩
end
end HT
namespace L2
open PySem PySem.Spec PyProof.Rows
section
variable {X:Cx} {e:Expr} {te:TE} {pos p2:Pos}
theorem zpP:SlR X (fun x lo hi H Q=> ∃ a xs,x= .ref a/\SqT X.K H a xs/\(HT.sIx xs.length 0 lo=0/\HT.sIx xs.length xs.length hi=xs.length)/\Q (.ref a) H):=by
 intro pins s σ H x v vl vu lo hi sl Q I rx hs pl pu h
 obtain ⟨a,xs,rfl,hx,hw,q⟩:=h
 cases rx
 obtain ⟨its,r,ht,hz⟩:=I.tuple hx
 have hlen:its.toArray.size=xs.length:=by rw [qar];exact r.length.symm
 refine ⟨"tuple",_,PyProof.Rows.slot_tuple_getitem.lookup,ht.typeIs,?_⟩
 exact HT.zdg ht hs pl pu (by rw [hlen];exact hw) ⟨.ref a,H,I,rfl,q⟩
theorem zec:fillsNumberSlot (.type "tuple") "mul"=pure false:=
 PySem.fillsNumberSlot_seq (id:="tuple.__mul__") (r:=some (.builtin "tuple.__rmul__")) F.slot_tuple_mul.lookup (by decide +kernel) F.slot_tuple_rmul.lookup (by decide +kernel)
theorem zhz:seqRepeat? (.type "tuple")=pure (some (.builtin "tuple.__mul__")):=by
 unfold seqRepeat?
 rw [PySem.seqSlot_of (T:="tuple") (name:="__mul__") (id:="tuple.__mul__") F.slot_tuple_mul.lookup (by decide +kernel),PySem.seqSlot_of (T:="tuple") (name:="__rmul__") (id:="tuple.__rmul__") F.slot_tuple_rmul.lookup (by decide +kernel)]
 rfl
theorem zfq (k:Int) (t:Tok) (l:Addr) (items:Array Value) (n:Nat) (dd:Option Addr) (sl:Array (Option Value)):
  Meets (Builtin.«int.__rmul__» ⟨[.int k t,.ref l],[]⟩) (fun _ R s=>s.heap.get? l=some {cls:= .type "tuple",dict:=dd,data:= .seq items n,slots:=sl}/\R (.ok (.ret Value.notImplemented)) s):=
 .of_wp fun prog w A R s h=>by obtain ⟨hp,g,d,tk,os⟩:=s;obtain ⟨hl,h⟩:=h;wp_walk;exact ⟨_,rfl,h⟩
theorem zmA (k:Int) (t:Tok) (l:Addr) (items:Array Value) (n:Nat) (dd:Option Addr) (sl:Array (Option Value)) (hne:items.isEmpty=false) (hk:2<=k) (hk2:k<1000) (hz:items.size*k.toNat<=sizeLine):
  Meets (Builtin.«tuple.__mul__» ⟨[.ref l,.int k t],[]⟩) (fun _ R s=>s.heap.get? l=some {cls:= .type "tuple",dict:=dd,data:= .seq items n,slots:=sl}/\
    R (.ok (.ret (.ref s.heap.objs.size))) {s with heap:=s.heap.push {cls:= .type "tuple",data:= .seq ((List.replicate k.toNat items).foldl (· ++ ·) #[])}}):=
 .of_wp fun prog w A R s h=>by
  obtain ⟨hp,g,d,tk,os⟩:=s;obtain ⟨hl,h⟩:=h
  unfold Builtin.«tuple.__mul__» 
  wp_walk
  have hk63: ¬(decide (k< -2^63) || decide (k>=2^63))=true:=by
   rw [Bool.or_eq_true,qau,qau]
   omega
  rw [if_neg hk63]
  dsimp only
  have ht:IsTup hp l items:=⟨_,hl,rfl,_,rfl⟩
  refine qaH (tupleItemsOf_ ht ?_)
  have h1: ¬(items.isEmpty || k==1)=true:=by
   rw [hne,Bool.false_or,beq_iff_eq]
   omega
  rw [if_neg h1]
  have h2: ¬(decide (k<=0) || items.isEmpty)=true:=by
   rw [hne,Bool.or_false,qau]
   omega
  rw [if_neg h2]
  have hk0:((k.toNat:Nat):Int)=k:=Int.toNat_of_nonneg (by omega)
  have hm:((items.size:Nat):Int)*k=((items.size*k.toNat:Nat):Int):=by rw [Int.natCast_mul,hk0]
  have hsl:(sizeLine:Nat)=16777216:=by decide
  have h3: ¬((items.size:Int)*k>(2^63 - 1) / 8):=by
   rw [hm]
   omega
  rw [if_neg h3]
  have h4: ¬Builtin.Tuple.tupleTooMany ((items.size:Int)*k)=true:=by
   unfold Builtin.Tuple.tupleTooMany
   rw [hm,qau]
   omega
  rw [if_neg h4]
  have hsz:sizeOk (.seq (List.foldl (fun x1 x2=>x1++x2) #[] (List.replicate k.toNat items))):=by
   show (List.foldl (fun x1 x2=>x1++x2) #[] (List.replicate k.toNat items)).size<=sizeLine
   have e: ∀ (m:Nat) (acc:Array Value),(List.foldl (fun x1 x2=>x1++x2) acc (List.replicate m items)).size=acc.size+m*items.size:=by
    intro m
    induction m with
    | zero=>intro acc;simp
    | succ m ih=>intro acc;rw [List.replicate_succ,List.foldl_cons,ih,Array.size_append,Nat.succ_mul];omega
   rw [e,Nat.mul_comm]
   simpa using hz
  exact qaH (m:=Builtin.Tuple.tupleExact _) (qat (qaI ⟨_,rfl,h⟩) hsz)
theorem zpo:OpR X (binaryOp .Mult) (fun x y H Q=> ∃ a k xs,x= .ref a/\y= .int k/\SqT X.K H a xs/\xs≠[]/\2<=k/\k<1000/\xs.length*k.toNat<=sizeLine/\ ∀ p,H p=none->Q (.ref p) (upd H p (.tup (List.replicate k.toNat xs).flatten))):=by
 intro pins s σ H x y v u Q I rx ry h
 obtain ⟨a,k,xs,rfl,rfl,hx,hne,h1,h2,hz,q⟩:=h
 cases rx
 obtain ⟨t,rfl⟩:=ry
 obtain ⟨its,r,ht,_⟩:=I.tuple hx
 have hl:=r.length
 obtain ⟨⟨cls,dd,data,sl⟩,ho,hc,n,hd⟩:=id ht
 simp only at hc hd
 subst hc hd
 have hemp:its.toArray.isEmpty=false:=by
  cases its with
  | nil=>cases r;exact absurd rfl hne
  | cons _ _=>simp
 refine wpAny_binaryOp_repeat_ref (T:="tuple") (U:="int") (by decide) ⟨_,ho,rfl⟩ (fun s'=>typeIs_int s' k t) zec F.fills_int_mul F.slot_int_rmul zhz F.slot_int_index.lookup
  (call_meets F.slot_int_rmul (typeIs_int s k t) F.entry_int_rmul (F.args_int_rmul_2 _ _) (zfq k t a its.toArray n dd sl)
    ⟨ho,rfl,⟨_,ho,rfl⟩,call_meets F.slot_tuple_mul ⟨_,ho,rfl⟩ F.entry_tuple_mul (F.args_tuple_mul_2 _ _) (zmA k t a its.toArray n dd sl hemp h1 h2 (by rw [qar, <-hl];exact hz)) ⟨ho,?_⟩⟩)
 have hnew:List.foldl (fun x1 x2=>x1++x2) #[] (List.replicate k.toNat its.toArray)=(List.replicate k.toNat its).flatten.toArray:=by
  have:=zeH its k.toNat []
  rw [List.nil_append] at this
  exact this
 rw [hnew]
 refine ⟨.ref _,_,I.laid (t':=s.toks) (o:= .tup (List.replicate k.toNat xs).flatten) (fun b ob q=>qad _ q) (qaG _) ?_,rfl,q _ (I.hok.fresh (qaG _))⟩
 exact ⟨by rw [zlN,Nat.mul_comm];exact hz,_,r.rep k.toNat,IsTup.new _ _⟩
end
end L2
namespace LT
open PySem PySem.Spec PyProof.Rows
noncomputable abbrev Up (xs:Array Nat):Prop:=xs.toList.Pairwise (· < ·)
theorem Up.lt {xs:Array Nat} (h:Up xs) {i j:Nat} {a b:Nat} (hi:xs[i]? = some a) (hj:xs[j]? = some b) (hij:i<j):a<b:=by
 have hi':xs.toList[i]? = some a:=by simpa using hi
 have hj':xs.toList[j]? = some b:=by simpa using hj
 obtain ⟨h1,e1⟩:=qab.mp hi'
 obtain ⟨h2,e2⟩:=qab.mp hj'
 have:=List.pairwise_iff_getElem.mp h i j h1 h2 hij
 rw [e1,e2] at this
 exact this
theorem zf0 {xs:Array Nat} (h:Up xs) (j:Nat): ∀ (fuel lo hi:Nat),hi - lo<=fuel->lo<=hi->hi<=xs.size->(∀ i a,i<lo->xs[i]? = some a->a<j)->(∀ i a,hi<=i->xs[i]? = some a->j<=a)->
  let r:=SetTable.below.go xs j fuel lo hi
  r<=xs.size/\(∀ i a,i<r->xs[i]? = some a->a<j)/\(∀ i a,r<=i->xs[i]? = some a->j<=a)
 | 0,lo,hi,hf,hl,hs,h1,h2=>by
  have e:lo=hi:=by omega
  subst e
  exact ⟨hs,h1,h2⟩
 | fuel+1,lo,hi,hf,hl,hs,h1,h2=>by
  unfold SetTable.below.go
  by_cases hlt:lo<hi
  ·rw [if_pos hlt]
   have hm:(lo+hi) / 2<xs.size:=by omega
   have em:xs[(lo+hi) / 2]? = some xs[(lo+hi) / 2]:=by simp [hm]
   have eg:xs.getD ((lo+hi) / 2) j=xs[(lo+hi) / 2]:=by simp [Array.getD,hm]
   dsimp only
   by_cases hc:xs.getD ((lo+hi) / 2) j<j
   ·rw [if_pos hc]
    refine zf0 h j fuel _ hi (by omega) (by omega) hs (fun i a hi' e=> ?_) h2
    rw [eg] at hc
    by_cases z:i=(lo+hi) / 2
    ·subst z;rw [em] at e;cases e;exact hc
    ·exact Nat.lt_trans (h.lt e em (by omega)) hc
   ·rw [if_neg hc]
    refine zf0 h j fuel lo _ (by omega) (by omega) (by omega) h1 fun i a hi' e=> ?_
    rw [eg] at hc
    by_cases z:i=(lo+hi) / 2
    ·subst z;rw [em] at e;cases e;omega
    ·have:=h.lt em e (by omega)
     omega
  ·rw [if_neg hlt]
   have e:lo=hi:=by omega
   subst e
   exact ⟨hs,h1,h2⟩
theorem zgy {xs:Array Nat} (h:Up xs) (j:Nat):SetTable.below xs j<=xs.size/\(∀ i a,i<SetTable.below xs j->xs[i]? = some a->a<j)/\(∀ i a,SetTable.below xs j<=i->xs[i]? = some a->j<=a):=
 zf0 h j xs.size 0 xs.size (by omega) (Nat.zero_le _) (qaG _) (fun _ _ z=>absurd z (Nat.not_lt_zero _)) fun i a z e=>by
  have:=(Array.getElem?_eq_some_iff.mp e).1
  omega
theorem zfD {xs:Array Nat} (h:Up xs) {k a:Nat} (e:xs[k]? = some a):SetTable.below xs (a+1)=k+1:=by
 obtain ⟨h1,h2,h3⟩:=zgy h (a+1)
 by_cases c:SetTable.below xs (a+1)<=k
 ·have:=h3 k a c e
  omega
 ·by_cases c2:k+1<SetTable.below xs (a+1)
  ·have hl:k+1<xs.size:=by omega
   have e2:xs[k+1]? = some xs[k+1]:=by simp [hl]
   have a1:=h2 (k+1) _ c2 e2
   have a2:=h.lt e e2 (by omega)
   omega
  ·omega
theorem zfT {xs:Array Nat} (h:Up xs):SetTable.below xs 0=0:=by
 obtain ⟨h1,h2,h3⟩:=zgy h 0
 by_cases c:SetTable.below xs 0=0
 ·exact c
 ·have hl:0<xs.size:=by omega
  exact absurd (h2 0 _ (by omega) (show xs[0]? = some xs[0] by simp [hl])) (Nat.not_lt_zero _)
theorem zlt {xs:Array Nat} (h:Up xs) {j:Nat} (hn:xs[SetTable.below xs j]? ≠ some j):Up (SetTable.insertAt xs (SetTable.below xs j) j):=by
 obtain ⟨h1,h2,h3⟩:=zgy h j
 show (SetTable.insertAt xs (SetTable.below xs j) j).toList.Pairwise (· < ·)
 rw [SetTable.toList_insertAt]
 rw [List.pairwise_append]
 have hsplit:xs.toList.take (SetTable.below xs j)++xs.toList.drop (SetTable.below xs j)=xs.toList:=List.take_append_drop ..
 have hp:(xs.toList.take (SetTable.below xs j)++xs.toList.drop (SetTable.below xs j)).Pairwise (· < ·):=by rw [hsplit];exact h
 obtain ⟨p1,p2,p3⟩:=List.pairwise_append.mp hp
 have tk: ∀ a∈xs.toList.take (SetTable.below xs j),a<j:=fun a ha=>by
  obtain ⟨i,hi⟩:=List.mem_iff_getElem?.mp ha
  rw [List.getElem?_take] at hi
  split at hi
  ·rename_i hlt
   exact h2 i a hlt (by simpa using hi)
  ·cases hi
 have dr: ∀ a∈xs.toList.drop (SetTable.below xs j),j<a:=fun a ha=>by
  obtain ⟨i,hi⟩:=List.mem_iff_getElem?.mp ha
  rw [List.getElem?_drop] at hi
  have hi':xs[SetTable.below xs j+i]? = some a:=by simpa using hi
  have a1:=h3 _ a (by omega) hi'
  rcases Nat.lt_or_eq_of_le a1 with z | z
  ·exact z
  ·subst z
   exfalso
   cases i with
   | zero=>exact hn hi'
   | succ i=>
    have hl:=(Array.getElem?_eq_some_iff.mp hi').1
    have e0:xs[SetTable.below xs j]? = some xs[SetTable.below xs j]:=by
     have:SetTable.below xs j<xs.size:=by omega
     simp [this]
    have b1:=h3 _ _ (qaG _) e0
    have b2:=h.lt e0 hi' (by omega)
    omega
 refine ⟨p1,List.pairwise_cons.mpr ⟨dr,p2⟩,fun a ha b hb=> ?_⟩
 rcases List.mem_cons.mp hb with z | z
 ·rw [z];exact tk a ha
 ·exact p3 a ha b z
structure zh9 (t:SetTable) (led:Bool):Prop where
 up:Up t.place
 nod:t.dummies= #[]
 led:t.led=led
theorem zix {j:Nat}:SetTable.has #[] j=false:=by
 unfold SetTable.has
 simp
theorem zkO {t:SetTable} {led:Bool} (g:zh9 t led) {j:Nat} (h:t.slot j= .empty):t.place[SetTable.below t.place j]? ≠ some j:=fun e=>by
 unfold SetTable.slot at h
 dsimp only at h
 rw [e] at h
 simp at h
theorem ziB {t:SetTable} {led:Bool} (g:zh9 t led) (f:Nat->Int) (h:Int): ∀ (fuel:Nat) (p:SetTable.Probe) (j:Nat) (d:Option Nat),p.dummy=none->SetTable.probe.go t f h fuel p=some (.empty j d)->t.slot j= .empty/\d=none
 | 0,_,_,_,_,e=>by cases e
 | fuel+1,p,j,d,hp,e=>by
  unfold SetTable.probe.go at e
  have adv: ∀ q:SetTable.Probe,q.dummy=none->(t.advance q).dummy=none:=fun q hq=>by
   unfold SetTable.advance
   split<;>exact hq
  split at e
  ·rename_i hs
   cases e
   exact ⟨hs,hp⟩
  ·rename_i hs
   exfalso
   unfold SetTable.slot at hs
   dsimp only at hs
   rw [g.nod,zix] at hs
   split at hs<;>simp at hs
  ·split at e
   ·cases e
   ·exact ziB g f h fuel _ j d (adv p hp) e
theorem zgp {t:SetTable} {led:Bool} (g:zh9 t led) {h:Int} {j:Nat} {b:Bool} (e:t.freeSlot h=some (j,b)):t.place[SetTable.below t.place j]? ≠ some j:=by
 unfold SetTable.freeSlot at e
 split at e
 ·rename_i j' d' hpr
  obtain ⟨h1,h2⟩:=ziB g _ _ _ _ _ _ rfl hpr
  subst h2
  cases e
  exact zkO g h1
 ·cases e
theorem zmU (n:Nat):Up (Array.range n):=by
 show (Array.range n).toList.Pairwise (· < ·)
 rw [Array.toList_range]
 exact List.pairwise_lt_range
theorem zb5 {t:SetTable} {led:Bool} (g:zh9 t led) (n:Nat):zh9 (t.standIn n) led:=⟨zmU n,rfl,g.led⟩
theorem zir {t:SetTable} {led:Bool} (g:zh9 t led) (es:Array (Int×Value)) (h:Int) (x:Value):zh9 (layNew t es h x).2.1 led:=by
 unfold layNew
 split
 ·rename_i slot wasDummy e
  have g2:zh9 (t.put slot).1 led:=by
   refine ⟨zlt g.up (zgp g e),?_,g.led⟩
   show (if SetTable.has t.dummies slot then _ else t.dummies)= #[]
   rw [g.nod,zix]
   rfl
  show zh9 ((t.put slot).1.orStandIn _) led
  unfold SetTable.orStandIn
  split
  ·exact g2
  ·exact zb5 g2 _
 ·exact zb5 g _
theorem zmg {mask finger moves:Nat} {led plain:Bool} {hs:Array Int} {t:SetTable} {o:Array Nat} (e:SetTable.laid mask finger moves led plain hs=some (t,o)):zh9 t led:=by
 unfold SetTable.laid at e
 cases z:SetTable.layClean mask hs with
 | none=>rw [z] at e;cases e
 | some owner=>
  rw [z] at e
  have e:some (({mask,place:=(((List.range (mask+1)).filterMap fun j=>(owner.getD j none).map (j, ·)).map (·.1)).toArray,dummies:= #[],finger,led,moves,plain}:SetTable),_)=some (t,o):=e
  cases e
  refine ⟨?_,rfl,rfl⟩
  show (((List.range (mask+1)).filterMap fun j=>(owner.getD j none).map (j, ·)).map (·.1)).toArray.toList.Pairwise (· < ·)
  rw [List.toList_toArray,List.map_filterMap]
  have sub:List.Sublist ((List.range (mask+1)).filterMap fun j=>((owner.getD j none).map (j, ·)).map (·.1)) (List.range (mask+1)):=by
   generalize List.range (mask+1)=l
   induction l with
   | nil=>exact .slnil
   | cons a r ih=>
    rw [List.filterMap_cons]
    cases q:owner.getD a none with
    | none=>exact ih.cons a
    | some v=>exact ih.cons₂ a
  exact List.pairwise_lt_range.sublist sub
theorem zgz {t:SetTable} {led:Bool} (g:zh9 t led) (es:Array (Int×Value)) (wanted:Nat):zh9 (relayAll t es wanted).2.1 led:=by
 unfold relayAll
 split
 ·rename_i t' order e
  have g2:zh9 t' t.led:=zmg e
  rw [g.led] at g2
  dsimp only
  split
  ·exact g2
  ·exact zb5 g _
 ·exact zb5 g _
noncomputable def zcu (w:World):Bool:= !w.params.followText "set-order"
noncomputable def zgB (prog:Program) (w:World) (h:Heap) (a:Addr) (S:Int->Bool) (n:Nat):Prop:=
 ∃ ob es ep tb,(h.get? a=some ob/\ob.ExactSet/\ob.data= .set es ep tb)/\ElemsOf (intKind prog w) es.toList/\(∀ k,S k=true↔ ∃ e∈es.toList,(intKind prog w).is k e.2=true)/\
  (es.size<scanBound/\tb.fits es.size=true/\es.size=n)/\zh9 tb (zcu w)
theorem zgB.move {prog:Program} {w:World} {h h':Heap} {a:Addr} {S S':Int->Bool} {n n':Nat} (g:zgB prog w h a S n) (k: ∀ ob,h.get? a=some ob->h'.get? a=some ob) (e: ∀ k,S k=S' k) (en:n=n'):zgB prog w h' a S' n':=by
 obtain ⟨ob,es,ep,tb,⟨h1,h2,h3⟩,h4,h5,⟨h6,h7,h8⟩,h9⟩:=g
 exact ⟨ob,es,ep,tb,⟨k ob h1,h2,h3⟩,h4,fun z=>by rw [<- e z];exact h5 z,⟨h6,h7,h8.trans en⟩,h9⟩
section
variable {prog:Program} {w:World} {A:Around} {E:Value->Shared->Prop} {s:Shared}
theorem stored {a:Addr} {ob:Obj} {es es':Array (Int×Value)} {ep:Nat} {tb tb':SetTable} {S:Int->Bool} {R:Unit->Shared->Prop} (ho:s.heap.get? a=some ob) (hx:ob.ExactSet) (hd:ob.data= .set es ep tb)
  (hE:ElemsOf (intKind prog w) es'.toList) (hS: ∀ k,S k=true↔ ∃ e∈es'.toList,(intKind prog w).is k e.2=true) (hb:es'.size<scanBound) (hf:tb'.fits es'.size=true) (hg:zh9 tb' (zcu w))
  (q: ∀ h',Heap.SameBut a s.heap h'->h'.get? a=some {ob with data:= .set es' (ep+1) tb'}->zgB prog w h' a S es'.size->R () {s with heap:=h'}):wpAny (model prog w) A (storeSet a es' tb') R E s:=by
 have put:=putSet_of es' tb' hd
 have at1:(s.heap.update a (Obj.putSet es' tb')).get? a=some {ob with data:= .set es' (ep+1) tb'}:=by
  have z:=qai (Obj.putSet es' tb') ho (by rw [put];rfl)
  rwa [put] at z
 exact wpAny_storeSet_of ho hd (q _ (Heap.SameBut.update ..) at1 ⟨_,es',ep+1,tb',⟨at1,hx,rfl⟩,hE,hS,⟨hb,hf,rfl⟩,hg⟩) (fits_of_scanBound hb)
theorem zv5 {a:Addr} {S:Int->Bool} {n:Nat} {k:Int} {t:Tok} {Q:Bool->Shared->Prop} (g:zgB prog w s.heap a S n) (room:n+1<scanBound)
  (q: ∀ h' b,Heap.SameBut a s.heap h'->zgB prog w h' a (fun z=>S z || decide (z=k)) (if S k then n else n+1)->Q b {s with heap:=h'}):
  wpAny (model prog w) A (setAddHashed a (.int k t) ((intKind prog w).hash k)) Q E s:=by
 have kis:(intKind prog w).is k (.int k t)=true:=intKind_is _ _ _ _
 obtain ⟨ob,es,ep,tb,⟨h1,h2,h3⟩,h4,h5,⟨h6,h7,h8⟩,h9⟩:=g
 have scn:(Value.int k t).scannable=true:=rfl
 unfold setAddHashed setAddHashedIn
 refine qaB (qaH (wpAny_setState_of h1 h3 h7 ?_))
 dsimp only
 rw [if_pos (byScan_of scn h6 h4)]
 refine qaH ?_
 unfold setAddByScan
 refine qaH (wpAny_rule (qaH (wpAny_setScan_of kis h1 h3 h7 h4 ?_)))
 cases fi:List.findIdx? (fun e=>(intKind prog w).is k e.2) es.toList with
 | some j=>
  obtain ⟨lj,pj,_⟩:=List.findIdx?_eq_some_iff_getElem.mp fi
  have inS:S k=true:=(h5 k).mpr ⟨_,List.getElem_mem lj,pj⟩
  refine qaI (qaI ?_)
  have z:=q s.heap false (Heap.SameBut.refl ..) ⟨ob,es,ep,tb,⟨h1,h2,h3⟩,h4,fun y=> ?_,⟨h6,h7,by rw [inS];exact h8⟩,h9⟩
  ·exact z
  ·rw [<- h5 y,Bool.or_eq_true,qau]
   exact ⟨fun c=>c.elim id fun c=>by rw [c];exact inS,.inl⟩
 | none=>
  have noS:S k=false:=by
   rw [<- Bool.not_eq_true,h5 k]
   rintro ⟨e,he,pe⟩
   have:=List.findIdx?_eq_none_iff.mp fi e he
   rw [pe] at this
   cases this
  have L1:=layNew_perm tb es ((intKind prog w).hash k) (.int k t)
  have L2:=layNew_fits tb es ((intKind prog w).hash k) (.int k t)
  have L3:=zir h9 es ((intKind prog w).hash k) (.int k t)
  generalize hl:layNew tb es ((intKind prog w).hash k) (.int k t)=ln at L1 L2 L3 ⊢
  obtain ⟨es1,tb1,wd,gv⟩:=ln
  dsimp only at L1 L2 L3 ⊢
  rw [Array.toList_push] at L1
  have E1:ElemsOf (intKind prog w) es1.toList:=(h4.push kis scn).perm L1
  have M1: ∀ y,(S y || decide (y=k))=true↔ ∃ e∈es1.toList,(intKind prog w).is y e.2=true:=mem_push_iff kis h5 L1
  have Z1:es1.size=n+1:=by
   have z:=L1.length_eq
   rw [qao,qam,qam] at z
   rw [z,h8];rfl
  have B1:es1.size<scanBound:=by rw [Z1];exact room
  have quiet: ∀ (b:Bool) (s1:Shared) (R:Unit->Shared->Prop),R () s1->wpAny (model prog w) A (match b with | true=>rule "set.scan.the-table-gave-way" | false=>pure ()) R E s1:=fun b s1 R z=>by
   cases b
   ·exact qaI z
   ·exact wpAny_rule z
  have fin: ∀ (s1:Shared) (h':Heap),s1={s with heap:=h'}->Heap.SameBut a s.heap h'->zgB prog w h' a (fun y=>S y || decide (y=k)) es1.size->Q true s1:=fun s1 h' e1 sb gg=>by
   subst e1
   have z:=q h' true sb
   rw [noS] at z
   exact z (by rw [Z1] at gg;exact gg)
  refine qaH (quiet _ _ _ ?_)
  have tail: ∀ (gw:Bool->Sem Unit),(∀ (b:Bool) (s1:Shared) (R:Unit->Shared->Prop),R () s1->wpAny (model prog w) A (gw b) R E s1)->wpAny (model prog w) A (do
      storeSet a es1 tb1
      if (!wd && tb1.tooFull)=true then do
        gw (relayAll tb1 es1 (SetTable.grown es1.size)).2.2
        storeSet a (relayAll tb1 es1 (SetTable.grown es1.size)).1 (relayAll tb1 es1 (SetTable.grown es1.size)).2.1
        pure (some true)
      else pure (some true)) (fun r s'=>wpAny (model prog w) A (match r with | some b=>pure b | none=>setAddHashedIn a (.int k t) ((intKind prog w).hash k) 99999) Q E s') E s:=by
   intro gw hgw
   refine qaH (stored h1 h2 h3 E1 M1 B1 L2 L3 fun h' sb at1 gg=> ?_)
   by_cases full:(!wd && tb1.tooFull)=true
   ·rw [if_pos full]
    have P2:=relayAll_perm tb1 es1 (SetTable.grown es1.size)
    have F2:=relayAll_fits tb1 es1 (SetTable.grown es1.size)
    have G2:=zgz L3 es1 (SetTable.grown es1.size)
    generalize relayAll tb1 es1 (SetTable.grown es1.size)=rl at P2 F2 G2 ⊢
    obtain ⟨es2,tb2,gv2⟩:=rl
    dsimp only at P2 F2 G2 ⊢
    have Z2:es2.size=es1.size:=by
     have z:=P2.length_eq
     rwa [qam,qam] at z
    refine qaH (hgw _ _ _ (qaH (stored (s:={s with heap:=h'}) (S:=fun y=>S y || decide (y=k)) at1 h2 rfl (E1.perm P2) (fun y=>(M1 y).trans ?_) (by rw [Z2];exact B1) F2 G2 fun h'' sb2 _ gg2=> ?_)))
    ·exact ⟨fun ⟨e,he,pe⟩=>⟨e,P2.mem_iff.mpr he,pe⟩,fun ⟨e,he,pe⟩=>⟨e,P2.mem_iff.mp he,pe⟩⟩
    ·exact qaI (qaI (fin _ h'' rfl (sb.trans sb2) (by rw [Z2] at gg2;exact gg2)))
   ·rw [if_neg full]
    exact qaI (qaI (fin _ h' rfl sb gg))
  split
  ·rw [hashByValue_scannable 8 scn]
   refine qaH (qaI ?_)
   exact tail _ fun b s1 R z=>by cases b<;>first | exact qaI z | exact wpAny_rule z
  ·refine qaH (qaI ?_)
   exact tail _ fun b s1 R z=>by cases b<;>first | exact qaI z | exact wpAny_rule z
end
section
variable {prog:Program} {w:World} {A:Around} {R:Result->Shared->Prop} {it:Addr} {fp wr:List Addr} {G:Array GenState->Array GenState->Prop} {n:Nat} {P:Nat->Value->Prop} {St:Nat->Shared->Prop}
theorem zvu (W:WalksS prog w A.in1 it fp wr G n P St) (a:Addr) (ha:a∉fp) (val:Nat->Int) (hval: ∀ i v,P i v-> ∃ t,v= .int (val i) t) (room:n+1<scanBound):
  ∀ (left i:Nat) (s:Shared),n - i=left->i<=n->St i s->zgB prog w s.heap a (fun z=>(firstMet val i).any (· == z)) (firstMet val i).length->
   (∀ s',Moved (a::wr) G s s'->zgB prog w s'.heap a (fun z=>(firstMet val n).any (· == z)) (firstMet val n).length->R (.ok (.ret .none)) s')->
   codeAny (model prog w) A (.builtin "set.update.loop" ⟨[.ref a,.ref it],[]⟩) R s:=by
 have awr:a∉wr:=fun z=>ha (W.sub _ z)
 have more: ∀ b∈wr,b∈a::wr:=fun b z=> .tail _ z
 intro left
 induction left with
 | zero=>
  intro i s hleft hin st g q
  obtain rfl:i=n:=by omega
  refine codeAny_builtin F.entry_set_update_loop ?_
  rw [Around.under_plainId F.plain_set_update_loop _]
  show wpAny _ _ (pyNext (.ref it)>>=_) _ _ _
  refine qaH (W.done s _ _ st fun s' mv=> ?_)
  exact qaI (q s' (mv.mono more) (g.move (fun ob e=>mv.heap a ob awr e) (fun _=>rfl) rfl))
 | succ left ih=>
  intro i s hleft hin st g q
  have hi:i<n:=by omega
  refine codeAny_builtin F.entry_set_update_loop ?_
  rw [Around.under_plainId F.plain_set_update_loop _]
  show wpAny _ _ (pyNext (.ref it)>>=_) _ _ _
  refine qaH (W.item i s _ _ hi st fun v s1 pv st1 mv=> ?_)
  obtain ⟨t,rfl⟩:=hval i v pv
  have g1:zgB prog w s1.heap a (fun z=>(firstMet val i).any (· == z)) (firstMet val i).length:=g.move (fun ob e=>mv.heap a ob awr e) (fun _=>rfl) rfl
  show wpAny _ _ (holding [Value.int (val i) t] (setAdd a (.int (val i) t))>>=_) _ _ _
  refine qaH (qaB ?_)
  unfold setAdd
  refine qaB (qaH ((intKind prog w).pyHash (k:=val i) (intKind_is _ _ _ _) ?_))
  have few:=firstMet_length_le val i
  refine zv5 (s:={s1 with toks:=s1.toks+1}) g1 (by omega) fun h2 b sb g2=> ?_
  have g3:zgB prog w h2 a (fun z=>(firstMet val (i+1)).any (· == z)) (firstMet val (i+1)).length:=
   g2.move (fun _ e=>e) (fun z=>by rw [firstMet_succ,step_any]) (by rw [firstMet_succ,step_length])
  have off: ∀ b,b≠a->h2.get? b=s1.heap.get? b:=fun b hb=>sb.2 b hb
  refine qaI ⟨plainId_quiet F.plain_set_update_loop _,ih (i+1) _ (by omega) hi (W.frame _ s1 _ _ st1 (Nat.le_succ _) fun b hb ob e=> ?_) g3 fun s3 mv3 g4=> ?_⟩
  ·rw [off b fun z=>ha (z▸hb)]
   exact e
  ·refine q s3 (.trans W.gtrans ((mv.mono more).then_heap (Nat.le_succ _) fun b ob hb e=> ?_) mv3) g4
   rw [off b fun z=>hb (z▸ .head _)]
   exact e
end
section
variable {prog:Program} {w:World} {A:Around} {E:Value->Shared->Prop} {s:Shared}
theorem zoi (h:Heap):zgB prog w (h.push {cls:= .type "set",dict:=none,data:= .set #[] 0 (.fresh 0 0 (zcu w))}) h.objs.size (fun _=>false) 0:=
 ⟨_, #[],0,_,⟨qal _ rfl,⟨rfl,rfl,rfl⟩,rfl⟩,fun e he=>by simp at he,fun k=>by simp,⟨by decide,rfl,rfl⟩,⟨List.Pairwise.nil,rfl,rfl⟩⟩
theorem zv6 (x:Value) {Q:Value->Shared->Prop} (q:Q (.ref s.heap.objs.size) {s with heap:=s.heap.push {cls:= .type "set",dict:=none,data:= .set #[] 0 (.fresh 0 0 (zcu w))}}):
  codeAny (model prog w) A (.call (.builtin "set.__new__") ⟨[.type "set",x],[]⟩) (wants Q E) s:=by
 refine codeAny_of_tree ?_
 show wpAny _ _ (do checkBuiltinCall "set.__new__" ⟨[.type "set",x],[]⟩;again (.builtin "set.__new__" ⟨[.type "set",x],[]⟩)) _ _ _
 refine qaH (wpAny_of_eq (F.newCall_set_1 x) (qaI ⟨plainId_quiet F.plain_set_new _,codeAny_builtin F.entry_set_new ?_⟩))
 rw [Around.under_plainId F.plain_set_new _]
 unfold Builtin.«set.__new__» Builtin.Frozenset.newClass
 have self:=sub_set_self
 obtain ⟨hp,gs,dr,tk,os⟩:=s
 dsimp only
 wp_walk
 refine wpAny_askSetting (qaI ?_)
 dsimp only
 simp only [newObj]
 exact qaH (wpAny_alloc (qaI (qaI q)))
theorem zvv {l:Addr} {T:String} {items:Array Value} {ns:List Int} {Q:Value->Shared->Prop} (hh:A.handled=none) (hT:(T="list"/\s.heap.IsList l items)\/(T="tuple"/\s.heap.IsTuple l items)) (hi:IntsAre items.toList ns) (room:items.size+1<scanBound)
  (q: ∀ (h':Heap) (tk:Nat),zgB prog w h' s.heap.objs.size (fun z=>(firstMet (fun i=>ns.getD i 0) items.size).any (· == z)) (firstMet (fun i=>ns.getD i 0) items.size).length->(∀ b ob,s.heap.get? b=some ob->h'.get? b=some ob)->
    Q (.ref s.heap.objs.size) {s with heap:=h',toks:=tk}):wpAny (model prog w) A (call (.type "set") [.ref l]) Q E s:=by
 obtain ⟨c,tl,hmro⟩:=F.called_set.mro
 have hmade:=F.called_set.made
 have hsub:=F.called_set.sub
 refine wpAny_call (codeAny_of_tree ?_)
 show wpAny _ _ (callAny (.type "set") _) _ _ _
 refine qaI ⟨Code.quiet_builtin _ (by decide +kernel),codeAny_builtin F.entry_type_call ?_⟩
 rw [Around.under_plain (weight_type_call_type "set" [.ref l] []) rfl]
 have hnt:=F.called_set.notType
 have hcc:=F.called_set.canCreate
 have htc:=F.typeCall_set_1 (.ref l)
 repeat' (first | assumption | wp_step)
 refine codeAny_mono (zv6 (.ref l) (E:=E) (Q:=fun v s1=>v= .ref s.heap.objs.size/\s1={s with heap:=s.heap.push {cls:= .type "set",dict:=none,data:= .set #[] 0 (.fresh 0 0 (zcu w))}}) ⟨rfl,rfl⟩) fun r s1 hr=> ?_
 cases r with
 | error e=>exact hr
 | ok fl=>
  cases fl with
  | ret v=>
   obtain ⟨rfl,rfl⟩:=hr
   have laid:(s.heap.push {cls:= .type "set",dict:=none,data:= .set #[] 0 (.fresh 0 0 (zcu w))}).get? s.heap.objs.size=some {cls:= .type "set",dict:=none,data:= .set #[] 0 (.fresh 0 0 (zcu w))}:=qal _ rfl
   have isSet:Shared.TypeIs {s with heap:=s.heap.push {cls:= .type "set",dict:=none,data:= .set #[] 0 (.fresh 0 0 (zcu w))}} (.ref s.heap.objs.size) "set":=⟨_,laid,rfl⟩
   have hli:=F.called_set.init.lookup
   have hbi:=F.called_set.init.bind (.ref s.heap.objs.size)
   repeat' (first | assumption | wp_step)
   refine codeAny_mono (codeAny_call_builtin (R:=wants (fun z s2=>z= .none/\ ∃ h' tk,s2={s with heap:=h',toks:=tk}/\
       zgB prog w h' s.heap.objs.size (fun z=>(firstMet (fun i=>ns.getD i 0) items.size).any (· == z)) (firstMet (fun i=>ns.getD i 0) items.size).length/\(∀ b ob,s.heap.get? b=some ob->h'.get? b=some ob)) E) F.called_set.init.plain F.entry_set_init (check_set_init_1 isSet ?_)) fun r2 s2 hr2=> ?_
   ·have keepL: ∀ ob,s.heap.get? l=some ob->(s.heap.push {cls:= .type "set",dict:=none,data:= .set #[] 0 (.fresh 0 0 (zcu w))}).get? l=some ob:=fun ob e=>qad _ e
    have hval: ∀ (i:Nat) (v:Value),items[i]? = some v-> ∃ t,v= .int ((fun i=>ns.getD i 0) i) t:=fun i v hv=>IntsAre.int_at hi i v (by rw [qag];exact hv)
    have hh3:A.in1.in1.in1.handled=none:=by simp [hh]
    have done1: ∀ (l0:Addr) (h0:Heap) (s':Shared),l0=s.heap.objs.size->Moved [l0,(s.heap.push {cls:= .type "set",dict:=none,data:= .set #[] 0 (.fresh 0 0 (zcu w))}).objs.size] (fun a b=>b=a) {s with heap:=h0} s'->(∀ b ob,s.heap.get? b=some ob->h0.get? b=some ob)->
      (∀ b ob,s.heap.get? b=some ob->s'.heap.get? b=some ob)/\s'={s with heap:=s'.heap,toks:=s'.toks}:=fun l0 h0 s' e0 mv k0=>by
     refine ⟨fun b ob e=>mv.heap b ob (fun z=> ?_) (k0 b ob e),?_⟩
     ·have lt:=qaC e
      rw [Heap.size_push,e0] at z
      simp only [List.mem_cons,qaw,or_false] at z
      rcases z with z | z
      ·exact qaA _ (z▸lt)
      ·exact qaA _ (Nat.lt_of_succ_lt (z▸lt))
     ·obtain ⟨h',g',d',tk',os'⟩:=s'
      have eg:g'=s.gens:=mv.gens
      have ed:d'=s.drawn:=mv.drawn
      have eo:os'=s.os:=mv.os
      subst eg ed eo
      rfl
    unfold Builtin.«set.__init__» noKeywords Builtin.Frozenset.updateFrom
    generalize hPI:pyIter=PI
    rcases hT with ⟨rfl,hl⟩ | ⟨rfl,hl⟩
    ·obtain ⟨⟨ocl,odi,oda,osl⟩,hol,hcl,nl,hdl⟩:=hl
     simp only at hcl hdl
     subst hcl hdl
     have hol':=keepL _ hol
     have f1:=F.sub_list_set
     have f2:=F.sub_list_frozenset
     have f3:(Value.type "list"==Value.type "dict")=false:=by decide
     wp_walk
     subst hPI
     have hl1:(s.heap.push {cls:= .type "set",dict:=none,data:= .set #[] 0 (.fresh 0 0 (zcu w))}).IsList l items:=⟨_,hol',rfl,nl,rfl⟩
     refine wpAny_pyIter_list hl1 ?_
     refine qaH (wpAny_runValue ?_)
     have ltl:l<s.heap.objs.size:=qaC hol
     have szp:(s.heap.push {cls:= .type "set",dict:=none,data:= .set #[] 0 (.fresh 0 0 (zcu w))}).objs.size=s.heap.objs.size+1:=Heap.size_push ..
     have ne1:l≠(s.heap.push {cls:= .type "set",dict:=none,data:= .set #[] 0 (.fresh 0 0 (zcu w))}).objs.size:=by rw [szp];exact qaD (Nat.lt_succ_of_lt ltl)
     have ne2:s.heap.objs.size∉[(s.heap.push {cls:= .type "set",dict:=none,data:= .set #[] 0 (.fresh 0 0 (zcu w))}).objs.size,l]:=by
      rw [szp]
      simp only [List.mem_cons,qaw,or_false]
      rintro (z | z)
      ·exact Nat.succ_ne_self _ z.symm
      ·exact qaA _ (z▸ltl)
     refine zvu ((Walks.list hh3 _ l ne1 items).toS) s.heap.objs.size ne2 (fun i=>ns.getD i 0) hval room _ 0 _ rfl (Nat.zero_le _) ⟨⟨_,qal _ rfl,rfl,rfl⟩,hl1.push _⟩ ?g0 fun s' mv gg=> ?_
     case g0=>exact (zoi s.heap).move (fun ob e=>qad _ e) (fun _=>rfl) rfl
     obtain ⟨k1,k2⟩:=done1 _ _ s' rfl mv fun b ob e=>qad _ (qad _ e)
     exact qaI (qaI ⟨rfl,s'.heap,s'.toks,k2,gg,k1⟩)
    ·obtain ⟨⟨ocl,odi,oda,osl⟩,hol,hcl,nl,hdl⟩:=hl
     simp only at hcl hdl
     subst hcl hdl
     have hol':=keepL _ hol
     have f1:=F.sub_tuple_set
     have f2:=F.sub_tuple_frozenset
     have f3:(Value.type "tuple"==Value.type "dict")=false:=by decide
     wp_walk
     subst hPI
     have hl1:(s.heap.push {cls:= .type "set",dict:=none,data:= .set #[] 0 (.fresh 0 0 (zcu w))}).IsTuple l items:=⟨_,hol',rfl,nl,rfl⟩
     refine wpAny_pyIter_tuple hl1 ?_
     refine qaH (wpAny_runValue ?_)
     have ltl:l<s.heap.objs.size:=qaC hol
     have szp:(s.heap.push {cls:= .type "set",dict:=none,data:= .set #[] 0 (.fresh 0 0 (zcu w))}).objs.size=s.heap.objs.size+1:=Heap.size_push ..
     have ne1:l≠(s.heap.push {cls:= .type "set",dict:=none,data:= .set #[] 0 (.fresh 0 0 (zcu w))}).objs.size:=by rw [szp];exact qaD (Nat.lt_succ_of_lt ltl)
     have ne2:s.heap.objs.size∉[(s.heap.push {cls:= .type "set",dict:=none,data:= .set #[] 0 (.fresh 0 0 (zcu w))}).objs.size,l]:=by
      rw [szp]
      simp only [List.mem_cons,qaw,or_false]
      rintro (z | z)
      ·exact Nat.succ_ne_self _ z.symm
      ·exact qaA _ (z▸ltl)
     refine zvu ((Walks.tuple hh3 _ l ne1 items).toS) s.heap.objs.size ne2 (fun i=>ns.getD i 0) hval room _ 0 _ rfl (Nat.zero_le _) ⟨⟨_,qal _ rfl,rfl,rfl⟩,⟨_,qad _ hol',rfl,nl,rfl⟩⟩ ?g0 fun s' mv gg=> ?_
     case g0=>exact (zoi s.heap).move (fun ob e=>qad _ e) (fun _=>rfl) rfl
     obtain ⟨k1,k2⟩:=done1 _ _ s' rfl mv fun b ob e=>qad _ (qad _ e)
     exact qaI (qaI ⟨rfl,s'.heap,s'.toks,k2,gg,k1⟩)
   ·cases r2 with
    | error e=>exact hr2
    | ok fl2=>
     cases fl2 with
     | ret z=>
      obtain ⟨rfl,h',tk,rfl,gg,k1⟩:=hr2
      repeat' (first | assumption | wp_step)
      exact q _ _ gg k1
     | _=>exact hr2.elim
  | _=>exact hr.elim
end
theorem zaD:Slot "set_iterator" "__next__" "set_iterator.__next__":= .of (owner:="set_iterator") (n:="__next__") (by rw [typeLookup_type,builtinLookup_eq_fast];kernel_rfl) (by decide +kernel) (by decide +kernel) (by decide +kernel) (by first | exact .inl (by decide +kernel) | exact .inr (by decide +kernel)) (by rw [isSubtype_type];kernel_rfl)
theorem zdw:Slot "set_iterator" "__iter__" "set_iterator.__iter__":= .of (owner:="set_iterator") (n:="__iter__") (by rw [typeLookup_type,builtinLookup_eq_fast];kernel_rfl) (by decide +kernel) (by decide +kernel) (by decide +kernel) (by first | exact .inl (by decide +kernel) | exact .inr (by decide +kernel)) (by rw [isSubtype_type];kernel_rfl)
theorem zb8:entryFor table "set_iterator.__next__"=some Builtin.«set_iterator.__next__» := entryFor_of_tree (by kernel_rfl)
theorem zfs:entryFor table "set_iterator.__iter__"=some Builtin.«dict_keyiterator.__iter__» := entryFor_alias (id':="dict_keyiterator.__iter__") (by kernel_rfl) rfl (by decide +kernel) (by kernel_rfl)
theorem zcw (a:Value):argsOk "set_iterator.__next__" ⟨[a],[]⟩:=by unfold argsOk;kernel_rfl
theorem zgf (a:Value):argsOk "set_iterator.__iter__" ⟨[a],[]⟩:=by unfold argsOk;kernel_rfl
theorem zfu:entryFor table "set.__iter__"=some Builtin.«frozenset.__iter__» := entryFor_alias (id':="frozenset.__iter__") (by kernel_rfl) rfl (by decide +kernel) (by kernel_rfl)
noncomputable def SIt (h:Heap) (it a:Addr) (first:Value) (i n ep:Nat):Prop:=h.get? it=some {cls:= .type "set_iterator",dict:=none,data:= .fields #[first,.int i 0,.ref a,.int n 0,.int ep 0],slots:= #[]}
structure ziH (h:Heap) (a:Addr) (es:Array (Int×Value)) (ep:Nat) (tb:SetTable):Prop where
 at_: ∃ ob,h.get? a=some ob/\ob.ExactSet/\ob.data= .set es ep tb
 fits:tb.fits es.size=true
section
variable {prog:Program} {w:World} {A:Around} {E:Value->Shared->Prop} {s:Shared}
theorem zla {it a:Addr} {first:Value} {i n ep:Nat} {es:Array (Int×Value)} {tb:SetTable} {Q:Option Value->Shared->Prop} (hI:SIt s.heap it a first i n ep) (hS:ziH s.heap a es ep tb) (hn:es.size=n) (slot:Nat) (hf:first= .int slot 0)
  (q:wpAny (model prog w) A.in1 (do
    match<-setNext a slot i ep with
    | some (x,next)=>
      setField (.ref it) 0 (rawInt next)
      setField (.ref it) 1 (rawInt ((i:Int)+1))
      ret x
    | none=>setField (.ref it) 2 .none;raiseNew (<- newExc (.type "StopIteration") [])) (fun f s'=> ∃ v,f= .done (.ret v)/\Q (some v) s') (fun e s'=>wpAny (model prog w) A (do if<-isInstance e (.type "StopIteration") then pure none else throw e) Q E s') s):
  wpAny (model prog w) A (pyNext (.ref it)) Q E s:=by
 obtain ⟨ob,ho,hx,hd⟩:=hS.at_
 subst hf
 have tI:s.TypeIs (.ref it) "set_iterator":=⟨_,hI,rfl⟩
 unfold pyNext
 refine qaH (wpAny_attempt (wpAny_callSpecial?_slot (name:=Str.ofString "__next__") tI zaD (wpAny_call_entry zaD tI zb8 ?_ (zcw _))))
 unfold Builtin.«set_iterator.__next__»
 refine qaH (m:=slotArgs "__next__" 0 _) (qaI ?_)
 refine qaH (m:=fieldsOf (.ref it)) ?_
 unfold fieldsOf
 refine qaH (wpAny_load hI (qaI ?_))
 refine qaH (wpAny_setEntries_of ho hd hS.fits ?_)
 have same: ¬(((es.size:Nat):Int) != (n:Int))=true:=by rw [hn];simp
 rw [if_neg same]
 exact qaK q (fun f s' ⟨v,e,z⟩=>⟨v,e,qaI z⟩) fun e s' z=>z
theorem zlr {it:Addr} {r:Shared->Prop} {Q:Option Value->Shared->Prop} (hh:A.handled=none) (q: ∀ h',(∀ b ob,s.heap.get? b=some ob->h'.get? b=some ob)->Q none {s with heap:=h'}):
  wpAny (model prog w) A.in1 (do raiseNew (<- newExc (.type "StopIteration") []):Sem PySem.Fin) (fun f s'=> ∃ v,f= .done (.ret v)/\Q (some v) s') (fun e s'=>wpAny (model prog w) A (do if<-isInstance e (.type "StopIteration") then pure none else throw e) Q E s') s:=by
 refine qaH ?_
 simp only [newExc,newTuple]
 refine qaH (qat ?_ (by size_fits))
 refine qaH (m:=firstArgMember _ _) (wpAny_of_eq (a:=Value.none) (by first | rfl | (simp only [firstArgMember];rfl)) ?_)
 refine qat ?_ (by size_fits)
 simp only [raiseNew]
 refine qaH (wpAny_handled ?_)
 rw [show A.in1.handled=none from hh]
 refine qaH (qaI (wpAny_throw ?_))
 refine qaH (wpAny_isInstance (T:="StopIteration") (b:=true) ⟨_,qal _ rfl,rfl⟩ isSubtype_stop ?_)
 exact qaI (q _ fun b ob e=>qad _ (qad _ e))
theorem SIt.set {h h':Heap} {it a:Addr} {first:Value} {i n ep:Nat} (x:SIt h it a first i n ep):it<h.objs.size:=qaC x
theorem zfU {es:Array (Int×Value)} {tb:SetTable} (hf:tb.fits es.size=true):tb.place.size=es.size:=by
 unfold SetTable.fits at hf
 simp only [Bool.and_eq_true,beq_iff_eq] at hf
 exact hf.1
theorem zdC {a:Addr} {ep i slot:Nat} {es:Array (Int×Value)} {tb:SetTable} {R:Option (Value×Nat)->Shared->Prop} (hS:ziH s.heap a es ep tb) (led:tb.led=true) (bt:w.params.followText "set-order"=false) (pl:(!tb.plain && decide (es.size>1))=false)
  (q:R (match es[SetTable.below tb.place slot]?, tb.place[SetTable.below tb.place slot]? with | some (_,x),some j=>some (x,j+1) | _,_=>none) s):wpAny (model prog w) A (setNext a slot i ep) R E s:=by
 obtain ⟨ob,ho,hx,hd⟩:=hS.at_
 unfold setNext
 refine qaH (wpAny_setState_of ho hd hS.fits ?_)
 dsimp only
 unfold setsByText
 refine qaH (qaH (wpAny_askSetting (qaI ?_)))
 dsimp only
 rw [show (model prog w).w.params.followText "set-order"=false from bt]
 simp only [qaq,if_false]
 show wpAny _ _ (if (!tb.plain && decide (es.size>1))=true then _ else _) _ _ _
 rw [if_neg (by rw [pl];exact Bool.false_ne_true)]
 refine qaH ?_
 show wpAny _ _ (if (!tb.led && !es.isEmpty)=true then _ else _) _ _ _
 rw [if_neg (by rw [led];exact Bool.false_ne_true)]
 exact qaI (qaI q)
theorem zd2 {a:Addr} {ep i slot:Nat} {es:Array (Int×Value)} {tb:SetTable} {R:Option (Value×Nat)->Shared->Prop} (hS:ziH s.heap a es ep tb) (bt:w.params.followText "set-order"=true)
  (q:R (((pickOrder (w.params.setOrder a ep) es)[i]?).map fun e=>(e.2,slot)) s):wpAny (model prog w) A (setNext a slot i ep) R E s:=by
 obtain ⟨ob,ho,hx,hd⟩:=hS.at_
 unfold setNext
 refine qaH (wpAny_setState_of ho hd hS.fits ?_)
 dsimp only
 unfold setsByText
 refine qaH (qaH (wpAny_askSetting (qaI ?_)))
 dsimp only
 rw [show (model prog w).w.params.followText "set-order"=true from bt]
 simp only [if_true]
 rw [if_neg (by simp)]
 refine qaH ?_
 unfold setWalk
 refine qaH (wpAny_setState_of ho hd hS.fits ?_)
 dsimp only
 unfold setsByText
 refine qaH (qaH (wpAny_askSetting (qaI ?_)))
 dsimp only
 rw [show (model prog w).w.params.followText "set-order"=true from bt]
 simp only [if_true]
 refine qaH (wpAny_askSetting (qaI (qaI q)))
theorem zl7 {it a:Addr} {n ep i slot nx:Nat} {x:Value} {es:Array (Int×Value)} {tb:SetTable} {Q:Option Value->Shared->Prop} (hI:SIt s.heap it a (.int slot 0) i n ep) (hS:ziH s.heap a es ep tb) (hn:es.size=n)
  (st: ∀ (R:Option (Value×Nat)->Shared->Prop) (E':Value->Shared->Prop),R (some (x,nx)) s->wpAny (model prog w) A.in1 (setNext a slot i ep) R E' s)
  (q: ∀ h',SIt h' it a (.int nx 0) (i+1) n ep->Heap.SameBut it s.heap h'->Q (some x) {s with heap:=h'}):wpAny (model prog w) A (pyNext (.ref it)) Q E s:=by
 refine zla hI hS hn slot rfl (qaH (st _ _ ?_))
 dsimp only
 refine qaH (wpAny_setField_rec hI (by simp) fun h1 a1 sb1=> ?_)
 refine qaH (wpAny_setField_rec (s:={s with heap:=h1}) a1 (by simp) fun h2 a2 sb2=> ?_)
 refine qaI ⟨x,rfl,q h2 ?_ (sb1.trans sb2)⟩
 unfold SIt
 rw [a2]
 simp [rawInt]
theorem zok {it a:Addr} {n ep i slot:Nat} {es:Array (Int×Value)} {tb:SetTable} {Q:Option Value->Shared->Prop} (hh:A.handled=none) (hI:SIt s.heap it a (.int slot 0) i n ep) (hS:ziH s.heap a es ep tb) (hn:es.size=n)
  (st: ∀ (R:Option (Value×Nat)->Shared->Prop) (E':Value->Shared->Prop),R none s->wpAny (model prog w) A.in1 (setNext a slot i ep) R E' s)
  (q: ∀ h',(∀ b ob,b≠it->s.heap.get? b=some ob->h'.get? b=some ob)->Q none {s with heap:=h'}):wpAny (model prog w) A (pyNext (.ref it)) Q E s:=by
 refine zla hI hS hn slot rfl (qaH (st _ _ ?_))
 dsimp only
 refine qaH (wpAny_setField_rec hI (by simp) fun h1 a1 sb1=> ?_)
 exact zlr (r:=fun _=>True) (it:=it) (s:={s with heap:=h1}) hh fun h' k=>q h' fun b ob hb e=>k b ob ((sb1.2 b hb).trans e)
end
theorem zcP {α:Type}: ∀ {l:List α} {i:Nat} {x:α},l[i]? = some x->List.Perm l (x::l.eraseIdx i)
 | [],_,_,e=>by simp at e
 | a::r,0,x,e=>by simp at e;subst e;exact .rfl
 | a::r,i+1,x,e=>by
  have e:r[i]? = some x:=by simpa using e
  exact ((zcP e).cons a).trans (.swap x a _)
theorem zd5 {α:Type} {l:List α} {i:Nat} {x:α} (e:l[i]? = some x):(l.eraseIdx i).length+1=l.length:=by
 have:=(zcP e).length_eq
 rw [qav] at this
 exact this.symm
theorem zho {α:Type} (nx:Nat->Nat): ∀ (fuel k:Nat) (left:List α) (out:Array α),left.length=fuel->List.Perm (pickOrder.go nx fuel k left out).toList (out.toList++left)
 | 0,k,left,out,h=>by
  have:left=[]:=List.length_eq_zero_iff.mp h
  subst this
  simp [pickOrder.go]
 | fuel+1,k,left,out,h=>by
  unfold pickOrder.go
  have hl:nx k % left.length<left.length:=Nat.mod_lt _ (by omega)
  have e:left[nx k % left.length]? = some left[nx k % left.length]:=by simp [hl]
  rw [e]
  dsimp only
  have hz:=zd5 e
  refine (zho nx fuel (k+1) _ _ (by omega)).trans ?_
  rw [Array.toList_push,List.append_assoc]
  exact List.Perm.append_left _ (zcP e).symm
theorem zce {α:Type} (nx:Nat->Nat) (xs:Array α):List.Perm (pickOrder nx xs).toList xs.toList:=by
 have:=zho nx xs.size 0 xs.toList #[] (by simp)
 simpa [pickOrder] using this
section
variable {prog:Program} {w:World} {A:Around} {E:Value->Shared->Prop} {s:Shared}
theorem zjy {src:Source} {n:Nat} {Q:Nat->Shared->Prop} (hn:n≠0) (q: ∀ k d,k<n->Q k {s with drawn:=d}):wpAny (model prog w) A (choose src n) Q E s:=fun Γ p hΓ=>⟨hn,q _ _ (Nat.mod_lt _ (Nat.pos_of_ne_zero hn))⟩
theorem zd1 {α:Type}: ∀ (fuel:Nat) (xs:List α) (s:Shared) (Q:List α->Shared->Prop),xs.length<=fuel->(∀ ys d,List.Perm ys xs->Q ys {s with drawn:=d})->wpAny (model prog w) A (drawOrder fuel xs) Q E s
 | 0,xs,s,Q,h,q=>by
  have:xs=[]:=List.length_eq_zero_iff.mp (by omega)
  subst this
  unfold drawOrder
  exact qaI (q [] s.drawn .rfl)
 | fuel+1,[],s,Q,h,q=>by
  unfold drawOrder
  exact qaI (q [] s.drawn .rfl)
 | fuel+1,x::r,s,Q,h,q=>by
  unfold drawOrder
  refine qaH (zjy (by simp) fun k d hk=> ?_)
  have e:(x::r)[k]? = some (x::r)[k]:=by simp [hk]
  rw [e]
  dsimp only
  have hz:=zd5 e
  refine qaH (zd1 fuel ((x::r).eraseIdx k) {s with drawn:=d} _ (by omega) fun ys d' p=>qaI ?_)
  exact q _ d' ((p.cons _).trans (zcP e).symm)
theorem zjz {it a tp:Addr} {n ep i p:Nat} {x:Value} {es:Array (Int×Value)} {tb:SetTable} {ps:Array Value} {Q:Option Value->Shared->Prop} (hI:SIt s.heap it a (.ref tp) i n ep) (hS:ziH s.heap a es ep tb) (hn:es.size=n)
  (hT:s.heap.get? tp=some {cls:= .type "tuple",data:= .seq ps}) (hp:ps[i]? = some (.int (p:Nat) 0)) (he:(es[p]?).map (·.2)=some x)
  (q: ∀ h',SIt h' it a (.ref tp) (i+1) n ep->Heap.SameBut it s.heap h'->Q (some x) {s with heap:=h'}):wpAny (model prog w) A (pyNext (.ref it)) Q E s:=by
 obtain ⟨ob,ho,hx,hd⟩:=hS.at_
 have tI:s.TypeIs (.ref it) "set_iterator":=⟨_,hI,rfl⟩
 unfold pyNext
 refine qaH (wpAny_attempt (wpAny_callSpecial?_slot (name:=Str.ofString "__next__") tI zaD (wpAny_call_entry zaD tI zb8 ?_ (zcw _))))
 unfold Builtin.«set_iterator.__next__»
 refine qaH (m:=slotArgs "__next__" 0 _) (qaI ?_)
 refine qaH (m:=fieldsOf (.ref it)) ?_
 unfold fieldsOf
 refine qaH (wpAny_load hI (qaI ?_))
 refine qaH (wpAny_setEntries_of ho hd hS.fits ?_)
 have same: ¬(((es.size:Nat):Int) != (n:Int))=true:=by rw [hn];simp
 rw [if_neg same]
 refine qaH (m:=seqItems? (.ref tp)) ?_
 unfold seqItems?
 refine qaH (wpAny_load hT (qaI ?_))
 dsimp only
 rw [show ((i:Nat):Int).toNat=i from qas i,hp]
 dsimp only
 refine qaH (m:=setNextDrawn a _ _) ?_
 unfold setNextDrawn
 refine qaH (wpAny_setState_of ho hd hS.fits ?_)
 dsimp only
 rw [show ((ep:Nat):Int).toNat=ep from qas ep,show ((p:Nat):Int).toNat=p from qas p,if_neg (by simp)]
 cases ee:es[p]? with
 | none=>rw [ee] at he;cases he
 | some e=>
  rw [ee] at he
  cases he
  dsimp only
  refine qaI ?_
  refine qaH (wpAny_setField_rec hI (by simp) fun h2 a2 sb2=> ?_)
  refine qaI ⟨_,rfl,qaI (q h2 ?_ sb2)⟩
  unfold SIt
  rw [a2]
  simp [rawInt]
theorem zkp {it a tp:Addr} {n ep i:Nat} {es:Array (Int×Value)} {tb:SetTable} {ps:Array Value} {Q:Option Value->Shared->Prop} (hh:A.handled=none) (hI:SIt s.heap it a (.ref tp) i n ep) (hS:ziH s.heap a es ep tb) (hn:es.size=n)
  (hT:s.heap.get? tp=some {cls:= .type "tuple",data:= .seq ps}) (hp:ps[i]? = none)
  (q: ∀ h',(∀ b ob,b≠it->s.heap.get? b=some ob->h'.get? b=some ob)->Q none {s with heap:=h'}):wpAny (model prog w) A (pyNext (.ref it)) Q E s:=by
 obtain ⟨ob,ho,hx,hd⟩:=hS.at_
 have tI:s.TypeIs (.ref it) "set_iterator":=⟨_,hI,rfl⟩
 unfold pyNext
 refine qaH (wpAny_attempt (wpAny_callSpecial?_slot (name:=Str.ofString "__next__") tI zaD (wpAny_call_entry zaD tI zb8 ?_ (zcw _))))
 unfold Builtin.«set_iterator.__next__»
 refine qaH (m:=slotArgs "__next__" 0 _) (qaI ?_)
 refine qaH (m:=fieldsOf (.ref it)) ?_
 unfold fieldsOf
 refine qaH (wpAny_load hI (qaI ?_))
 refine qaH (wpAny_setEntries_of ho hd hS.fits ?_)
 have same: ¬(((es.size:Nat):Int) != (n:Int))=true:=by rw [hn];simp
 rw [if_neg same]
 refine qaH (m:=seqItems? (.ref tp)) ?_
 unfold seqItems?
 refine qaH (wpAny_load hT (qaI ?_))
 dsimp only
 rw [show ((i:Nat):Int).toNat=i from qas i,hp]
 dsimp only
 refine qaH (wpAny_setField_rec hI (by simp) fun h1 a1 sb1=> ?_)
 refine qaH (wpAny_setField_rec (s:={s with heap:=h1}) a1 (by simp) fun h2 a2 sb2=> ?_)
 refine qaK (zlr (Q:=Q) (E:=E) (r:=fun _=>True) (it:=it) (s:={s with heap:=h2}) hh fun h' k=>q h' fun b ob hb e=>k b ob ((sb2.2 b hb).trans ((sb1.2 b hb).trans e))) (fun f s' ⟨v,e,z⟩=>⟨v,e,qaI z⟩) fun e s' z=>z
theorem ze5 {it a:Addr} {first:Value} {i n ep:Nat} {Q:Value->Shared->Prop} (hI:SIt s.heap it a first i n ep) (q:Q (.ref it) s):wpAny (model prog w) A (pyIter (.ref it)) Q E s:=by
 have tI:s.TypeIs (.ref it) "set_iterator":=⟨_,hI,rfl⟩
 refine wpAny_pyIter_slot tI zdw (wpAny_call_entry zdw tI zfs ?_ (zgf _))
 show wpAny _ _ (ret (.ref it)) _ _ _
 exact qaI ⟨_,rfl,"set_iterator",_,tI,zaD.lookup,q⟩
theorem ziH.keep {h h':Heap} {a:Addr} {es:Array (Int×Value)} {ep:Nat} {tb:SetTable} (x:ziH h a es ep tb) (k: ∀ ob,h.get? a=some ob->h'.get? a=some ob):ziH h' a es ep tb:=
 ⟨let ⟨ob,h1,h2⟩:=x.at_;⟨ob,k ob h1,h2⟩,x.fits⟩
noncomputable def zgY (tb:SetTable):Nat->Nat
 | 0=>0
 | i+1=>tb.place.getD i 0+1
theorem zjD (hh:A.handled=none) {it a:Addr} {ep:Nat} {es:Array (Int×Value)} {tb:SetTable} (hne:a≠it) (up:Up tb.place) (led:tb.led=true) (bt:w.params.followText "set-order"=false) (pl:(!tb.plain && decide (es.size>1))=false) (hf:tb.fits es.size=true):
  Walks prog w A it [it,a] [it] es.size (fun i v=> ∃ e,es.toList[i]? = some e/\v=e.2) (fun i h=>SIt h it a (.int (zgY tb i:Nat) 0) i es.size ep/\ziH h a es ep tb) where
 sub:=fun b hb=>by simp at hb;simp [hb]
 frame:=fun i h h' st k=>⟨k it (by simp) _ st.1,st.2.keep fun ob e=>k a (by simp) ob e⟩
 item:=fun i s Q E hi st q=>by
  have pz:=zfU hf
  have hi2:i<tb.place.size:=by omega
  have bl:SetTable.below tb.place (zgY tb i)=i:=by
   cases i with
   | zero=>exact zfT up
   | succ i=>
    have hi3:i<tb.place.size:=by omega
    have e:tb.place[i]? = some (tb.place.getD i 0):=by simp [hi3,Array.getD]
    exact zfD up e
  have ep':tb.place.getD i 0=tb.place[i]:=by simp [hi2,Array.getD]
  refine zl7 (nx:=zgY tb (i+1)) (x:=es[i].2) st.1 st.2 rfl (fun R E' r=>zdC st.2 led bt pl ?_) fun h' a1 sb=> ?_
  ·rw [bl]
   have e1:es[i]? = some es[i]:=by simp [hi]
   have e2:tb.place[i]? = some tb.place[i]:=by simp [hi2]
   rw [e1,e2]
   show R (some (es[i].2,tb.place[i]+1)) s
   have e3:zgY tb (i+1)=tb.place[i]+1:=by show tb.place.getD i 0+1=_;rw [ep']
   rw [<- e3]
   exact r
  ·exact q _ h' s.toks ⟨es[i],by simp [hi],rfl⟩ ⟨a1,st.2.keep fun ob e=>(sb.2 a hne).trans e⟩ fun b ob hb e=>(sb.2 b fun z=>hb (by simp [z])).trans e
 done:=fun s Q E st q=>by
  have pz:=zfU hf
  have bl:SetTable.below tb.place (zgY tb es.size)=es.size:=by
   cases hz:es.size with
   | zero=>exact zfT up
   | succ i=>
    have hi3:i<tb.place.size:=by omega
    have e:tb.place[i]? = some (tb.place.getD i 0):=by simp [hi3,Array.getD]
    exact zfD up e
  refine zok hh st.1 st.2 rfl (fun R E' r=>zdC st.2 led bt pl ?_) fun h' k=>q h' s.toks fun b ob hb e=>k b ob (fun z=>hb (by simp [z])) e
  rw [bl]
  have e1:es[es.size]? = none:=by simp
  rw [e1]
  exact r
 self:=fun i s Q E st q=>ze5 st.1 q
theorem zkY (hh:A.handled=none) {it a:Addr} {ep:Nat} {es:Array (Int×Value)} {tb:SetTable} (hne:a≠it) (bt:w.params.followText "set-order"=true) (hf:tb.fits es.size=true):
  Walks prog w A it [it,a] [it] es.size (fun i v=> ∃ e,(pickOrder (w.params.setOrder a ep) es).toList[i]? = some e/\v=e.2) (fun i h=>SIt h it a (.int (0:Nat) 0) i es.size ep/\ziH h a es ep tb) where
 sub:=fun b hb=>by simp at hb;simp [hb]
 frame:=fun i h h' st k=>⟨k it (by simp) _ st.1,st.2.keep fun ob e=>k a (by simp) ob e⟩
 item:=fun i s Q E hi st q=>by
  have pz:(pickOrder (w.params.setOrder a ep) es).size=es.size:=by
   have:=(zce (w.params.setOrder a ep) es).length_eq
   simpa using this
  have hi2:i<(pickOrder (w.params.setOrder a ep) es).size:=by omega
  refine zl7 (nx:=0) (x:=(pickOrder (w.params.setOrder a ep) es)[i].2) st.1 st.2 rfl (fun R E' r=>zd2 st.2 bt ?_) fun h' a1 sb=> ?_
  ·have e1:(pickOrder (w.params.setOrder a ep) es)[i]? = some (pickOrder (w.params.setOrder a ep) es)[i]:=by simp [hi2]
   rw [e1]
   exact r
  ·exact q _ h' s.toks ⟨(pickOrder (w.params.setOrder a ep) es)[i],by simp [hi2],rfl⟩ ⟨a1,st.2.keep fun ob e=>(sb.2 a hne).trans e⟩ fun b ob hb e=>(sb.2 b fun z=>hb (by simp [z])).trans e
 done:=fun s Q E st q=>by
  have pz:(pickOrder (w.params.setOrder a ep) es).size=es.size:=by
   have:=(zce (w.params.setOrder a ep) es).length_eq
   simpa using this
  refine zok hh st.1 st.2 rfl (fun R E' r=>zd2 st.2 bt ?_) fun h' k=>q h' s.toks fun b ob hb e=>k b ob (fun z=>hb (by simp [z])) e
  have e1:(pickOrder (w.params.setOrder a ep) es)[es.size]? = none:=by simp [pz]
  rw [e1]
  exact r
 self:=fun i s Q E st q=>ze5 st.1 q
theorem zjv (hh:A.handled=none) {it a tp:Addr} {ep:Nat} {es:Array (Int×Value)} {tb:SetTable} {ys:List Nat} (hne:a≠it) (hne2:tp≠it) (hp:List.Perm ys (List.range es.size)):
  Walks prog w A it [it,a,tp] [it] es.size (fun i v=> ∃ e,(ys.filterMap (es[·]?))[i]? = some e/\v=e.2) (fun i h=>SIt h it a (.ref tp) i es.size ep/\ziH h a es ep tb/\h.get? tp=some {cls:= .type "tuple",data:= .seq (ys.map fun (i:Nat)=>rawInt i).toArray}) where
 sub:=fun b hb=>by simp at hb;simp [hb]
 frame:=fun i h h' st k=>⟨k it (by simp) _ st.1,st.2.1.keep fun ob e=>k a (by simp) ob e,k tp (by simp) _ st.2.2⟩
 item:=fun i s Q E hi st q=>by
  have hl:ys.length=es.size:=by simpa using hp.length_eq
  have hi2:i<ys.length:=by omega
  have lt: ∀ y∈ys,y<es.size:=fun y hy=>by simpa using hp.mem_iff.mp hy
  have lti:=lt _ (List.getElem_mem hi2)
  have fm: ∀ (zs:List Nat),(∀ y∈zs,y<es.size)-> ∀ (j:Nat) (y:Nat),zs[j]? = some y->(zs.filterMap (es[·]?))[j]? = es[y]? := by
   intro zs
   induction zs with
   | nil=>intro _ j y e;simp at e
   | cons z r ih=>
    intro hz j y e
    have lz:=hz z (.head _)
    rw [List.filterMap_cons_some (b:=es[z]) (by simp [lz])]
    cases j with
    | zero=>simp at e;subst e;simp [lz]
    | succ j=>simpa using ih (fun y hy=>hz y (.tail _ hy)) j y (by simpa using e)
  refine zjz (p:=ys[i]) (x:=es[ys[i]].2) st.1 st.2.1 rfl st.2.2 (by simp [hi2,rawInt]) (by simp [lti]) fun h' a1 sb=> ?_
  refine q _ h' s.toks ⟨es[ys[i]],?_,rfl⟩ ⟨a1,st.2.1.keep fun ob e=>(sb.2 a hne).trans e,(sb.2 tp hne2).trans st.2.2⟩ fun b ob hb e=>(sb.2 b fun z=>hb (by simp [z])).trans e
  rw [fm ys lt i ys[i] (by simp [hi2])]
  simp [lti]
 done:=fun s Q E st q=>by
  have hl:ys.length=es.size:=by simpa using hp.length_eq
  exact zkp hh st.1 st.2.1 rfl st.2.2 (by simp [hl]) fun h' k=>q h' s.toks fun b ob hb e=>k b ob (fun z=>hb (by simp [z])) e
 self:=fun i s Q E st q=>ze5 st.1 q
end
section
variable {prog:Program} {w:World} {A:Around} {E:Value->Shared->Prop} {s:Shared}
structure zpN (prog:Program) (w:World) (a it:Addr) (es:Array (Int×Value)) (ord:List (Int×Value)) (fp:List Addr) (St:Nat->Heap->Prop):Prop where
 walks: ∀ A:Around,A.handled=none->Walks prog w A it fp [it] es.size (fun i v=> ∃ e,ord[i]? = some e/\v=e.2) St
 perm:List.Perm ord es.toList
 mem:it∈fp
theorem zux {a:Addr} {S:Int->Bool} {n:Nat} {Q:Value->Shared->Prop} (g:zgB prog w s.heap a S n)
  (q: ∀ it es ep tb ord fp St h' d,(∃ ob,s.heap.get? a=some ob/\ob.ExactSet/\ob.data= .set es ep tb)->zpN prog w a it es ord fp St->St 0 h'->s.heap.objs.size<=it->(∀ b ob,s.heap.get? b=some ob->h'.get? b=some ob)->(∀ b∈fp,b=a\/s.heap.objs.size<=b)->es.size<scanBound->
    Q (.ref it) {s with heap:=h',drawn:=d}):wpAny (model prog w) A (pyIter (.ref a)) Q E s:=by
 obtain ⟨ob,es,ep,tb,⟨h1,h2,h3⟩,h4,h5,⟨h6,h7,h8⟩,h9⟩:=g
 have tS:s.TypeIs (.ref a) "set":=⟨ob,h1,h2.1⟩
 have lta:a<s.heap.objs.size:=qaC h1
 refine wpAny_pyIter_slot tS F.slot_set_iter (wpAny_call_entry F.slot_set_iter tS zfu ?_ (F.args_set_iter_1 _))
 unfold Builtin.«frozenset.__iter__»
 refine qaH (m:=Builtin.Frozenset.slot0 "__iter__" _) (qaI ?_)
 refine qaH (m:=Builtin.Frozenset.sizeOf a) ?_
 unfold Builtin.Frozenset.sizeOf
 refine qaH (wpAny_setEntries_of h1 h3 h7 (qaI ?_))
 refine qaH (m:=setDrawn a) ?_
 unfold setDrawn
 refine qaH (wpAny_setState_of h1 h3 h7 ?_)
 dsimp only
 unfold setsByText
 refine qaH (qaH (wpAny_askSetting (qaI (qaI ?_))))
 dsimp only
 have sobj: ∀ {h':Heap},(∀ b ob,s.heap.get? b=some ob->h'.get? b=some ob)->ziH h' a es ep tb:=fun k=>⟨⟨ob,k _ _ h1,h2,h3⟩,h7⟩
 by_cases dr:(!(model prog w).w.params.followText "set-order" && (!tb.plain && decide (es.size>1)))=true
 ·show wpAny _ _ (if (!(model prog w).w.params.followText "set-order" && (!tb.plain && decide (es.size>1)))=true then _ else _) _ _ _
  rw [if_pos dr]
  refine qaH (zd1 es.size (List.range es.size) s _ (by simp) fun ys d hp=> ?_)
  have hl:ys.length=es.size:=by simpa using hp.length_eq
  have small:es.size<=sizeLine:=fits_of_scanBound h6
  refine qaH ?_
  unfold newTuple
  refine qat ?_ (by show (ys.map fun (i:Nat)=>rawInt i).toArray.size<=sizeLine;simp [hl];exact small)
  unfold setEpoch
  refine qaH (qaH (wpAny_setState_of (s:={s with heap:=_,drawn:=d}) (qad _ h1) h3 h7 (qaI ?_)))
  dsimp only
  refine qaH (qat (qaI ⟨_,rfl,"set_iterator",_,⟨_,qal _ rfl,rfl⟩,zaD.lookup,?_⟩))
  have z1:(s.heap.push {cls:= .type "tuple",dict:=none,data:= .seq (ys.map fun (i:Nat)=>rawInt i).toArray}).objs.size=s.heap.objs.size+1:=Heap.size_push ..
  have kp: ∀ (o2:Obj) b ob,s.heap.get? b=some ob->((s.heap.push {cls:= .type "tuple",dict:=none,data:= .seq (ys.map fun (i:Nat)=>rawInt i).toArray}).push o2).get? b=some ob:=fun o2 b ob e=>qad _ (qad _ e)
  refine q _ es ep tb (ys.filterMap (es[·]?)) [(s.heap.push {cls:= .type "tuple",dict:=none,data:= .seq (ys.map fun (i:Nat)=>rawInt i).toArray}).objs.size,a,s.heap.objs.size] _ _ d ⟨ob,h1,h2,h3⟩ ⟨fun A' hA=>zjv (tb:=tb) (ep:=ep) hA ?_ ?_ hp,?_,.head _⟩ ⟨?_,sobj (kp _),?_⟩ ?_ (kp _) (fun b hb=> ?_) h6
  ·rw [z1];exact qaD (Nat.lt_succ_of_lt lta)
  ·rw [z1];exact qaD (Nat.lt_succ_self _)
  ·refine (hp.filterMap _).trans ?_
   rw [filterMap_getElem?_range]
  ·exact qal _ rfl
  ·exact qad _ (qal _ rfl)
  ·rw [z1];exact Nat.le_succ _
  ·simp only [List.mem_cons,qaw,or_false] at hb
   rcases hb with z | z | z
   ·right;rw [z,z1];exact Nat.le_succ _
   ·exact .inl z
   ·right;rw [z];exact qaG _
 ·show wpAny _ _ (if (!(model prog w).w.params.followText "set-order" && (!tb.plain && decide (es.size>1)))=true then _ else _) _ _ _
  rw [if_neg dr]
  refine qaH (qaI ?_)
  unfold setEpoch
  refine qaH (qaH (wpAny_setState_of h1 h3 h7 (qaI ?_)))
  dsimp only
  refine qaH (qat (qaI ⟨_,rfl,"set_iterator",_,⟨_,qal _ rfl,rfl⟩,zaD.lookup,?_⟩))
  have kp: ∀ (o2:Obj) b ob,s.heap.get? b=some ob->(s.heap.push o2).get? b=some ob:=fun o2 b ob e=>qad _ e
  have fpl: ∀ b∈[s.heap.objs.size,a],b=a\/s.heap.objs.size<=b:=fun b hb=>by
   simp only [List.mem_cons,qaw,or_false] at hb
   rcases hb with z | z
   ·right;rw [z];exact qaG _
   ·exact .inl z
  cases bt:w.params.followText "set-order" with
  | true=>
   exact q _ es ep tb _ [s.heap.objs.size,a] _ _ s.drawn ⟨ob,h1,h2,h3⟩ ⟨fun A' hA=>zkY (tb:=tb) (ep:=ep) hA (qaD lta) bt h7,zce _ _,.head _⟩ ⟨qal _ rfl,sobj (kp _)⟩ (qaG _) (kp _) fpl h6
  | false=>
   have pl:(!tb.plain && decide (es.size>1))=false:=by
    rw [show (model prog w).w.params.followText "set-order"=false from bt] at dr
    simpa using dr
   have led:tb.led=true:=by
    rw [h9.led]
    unfold zcu
    rw [bt]
    rfl
   exact q _ es ep tb _ [s.heap.objs.size,a] _ _ s.drawn ⟨ob,h1,h2,h3⟩ ⟨fun A' hA=>zjD (tb:=tb) (ep:=ep) hA (qaD lta) h9.up led bt pl h7,.rfl,.head _⟩ ⟨qal _ rfl,sobj (kp _)⟩ (qaG _) (kp _) fpl h6
theorem znc {a:Addr} {S:Int->Bool} {n:Nat} {Q:List Value->Shared->Prop} (hh:A.handled=none) (g:zgB prog w s.heap a S n)
  (q: ∀ vs s' es ep tb,(∃ ob,s.heap.get? a=some ob/\ob.ExactSet/\ob.data= .set es ep tb)->List.Perm vs (es.toList.map (·.2))->(∀ b ob,s.heap.get? b=some ob->s'.heap.get? b=some ob)->s'.gens=s.gens->s'.os=s.os->Q vs s'):wpAny (model prog w) A (collect (.ref a)) Q E s:=by
 have tS: ∀ {h':Heap} {s':Shared},s'.heap=h'->(∀ b ob,s.heap.get? b=some ob->h'.get? b=some ob)->s'.TypeIs (.ref a) "set":=fun {h' s'} e k=>by
  obtain ⟨ob,es,ep,tb,⟨h1,h2,h3⟩,_⟩:=g
  exact ⟨ob,by rw [e];exact k _ _ h1,h2.1⟩
 have lta:a<s.heap.objs.size:=by
  obtain ⟨ob,es,ep,tb,⟨h1,h2,h3⟩,_⟩:=g
  exact qaC h1
 unfold collect
 refine qaH (wpAny_runValue (codeAny_builtin F.entry_proto_collect ?_))
 rw [Around.under_plainId F.plain_proto_collect _]
 show wpAny _ _ (newList []>>=fun l=>again (.builtin "list.__iadd__" ⟨[l,.ref a],[]⟩)) _ _ _
 refine qaH (qat (qaI ⟨plainId_quiet F.plain_list_iadd _,codeAny_builtin F.entry_list_iadd ?_⟩))
 rw [Around.under_plainId F.plain_list_iadd _]
 show wpAny _ _ (Builtin.List.listExtendWith (.ref s.heap.objs.size) (.ref a) (.ref s.heap.objs.size)) _ _ _
 unfold Builtin.List.listExtendWith
 have k1: ∀ b ob,s.heap.get? b=some ob->(s.heap.push {cls:= .type "list",data:= .seq ([]:List Value).toArray}).get? b=some ob:=fun b ob e=>qad _ e
 refine qaH (wpAny_typeOf (tS rfl k1) ?_)
 have nsame:Builtin.List.listSameRef (.ref s.heap.objs.size) (.ref a)=false:=by
  simp only [Builtin.List.listSameRef,beq_eq_false_iff_ne]
  exact fun z=>qaA _ (z▸lta)
 have nl:(Value.type "set"==Value.type "list")=false:=by decide
 have nt:(Value.type "set"==Value.type "tuple")=false:=by decide
 simp only [nsame,nl,nt,Bool.or_false,qaq,if_false]
 refine qaH (zux (g.move (fun ob e=>k1 _ _ e) (fun _=>rfl) rfl) fun it es ep tb ord fp St h2 d hob W st0 lit k2 fpl few=> ?_)
 refine qaH (qaB ?_)
 unfold Builtin.List.listLengthHint
 have k12: ∀ b ob,s.heap.get? b=some ob->h2.get? b=some ob:=fun b ob e=>k2 b ob (k1 b ob e)
 refine qaH (wpAny_specialOf (tS rfl k12) F.slot_set_len.lookup ?_)
 have sp:splitId "set.__len__"=some ("set","__len__"):=by decide +kernel
 dsimp only
 rw [sp]
 dsimp only
 refine qaH (wpAny_isInstance (tS rfl k12) sub_set_self ?_)
 rw [if_neg (by decide)]
 rw [if_pos (by decide +kernel)]
 refine qaH (wpAny_typeOf (tS rfl k12) (qaI ?_))
 rw [if_pos (by decide +kernel)]
 refine qaH (wpAny_rule ?_)
 have l2:h2.get? s.heap.objs.size=some {cls:= .type "list",data:= .seq ([]:List Value).toArray}:=k2 _ _ (qal _ rfl)
 refine qaH ?_
 unfold Builtin.List.listTouch
 show wpAny _ _ (updateSeq s.heap.objs.size (·.push .none)>>=fun _=>updateSeq s.heap.objs.size (·.pop)) _ _ _
 refine qaH (wpAny_updateSeq l2 rfl ?_)
 have l3:=qai (Obj.mapSeq (·.push Value.none)) l2 rfl
 refine wpAny_updateSeq l3 rfl ?_
 have l4:=qai (Obj.mapSeq (·.pop)) l3 rfl
 have oth: ∀ b ob,b≠s.heap.objs.size->h2.get? b=some ob->((h2.update s.heap.objs.size (Obj.mapSeq (·.push Value.none))).update s.heap.objs.size (Obj.mapSeq (·.pop))).get? b=some ob:=fun b ob hb e=>
  (qae _ _ (Ne.symm hb)).trans ((qae _ _ (Ne.symm hb)).trans e)
 have nfp:s.heap.objs.size∉fp:=fun z=>by
  rcases fpl _ z with z | z
  ·exact qaA _ (z▸lta)
  ·rw [show ({s with heap:=s.heap.push {cls:= .type "list",data:= .seq ([]:List Value).toArray}}:Shared).heap.objs.size=s.heap.objs.size+1 from Heap.size_push ..] at z
   exact qaA _ z
 have fin: ∀ (s':Shared) (vs:Array Value) (c:Nat),(∀ b ob,s.heap.get? b=some ob->s'.heap.get? b=some ob)->s'.gens=s.gens->s'.os=s.os->s'.heap.get? s.heap.objs.size=some {cls:= .type "list",dict:=none,data:= .seq vs c,slots:= #[]}->ItemsOf (fun i v=> ∃ e,ord[i]? = some e/\v=e.2) vs es.size->
   wpAny (model prog w) A (load s.heap.objs.size>>=fun o=>match o.data with | .seq xs _=>pure xs.toList | _=>unsupported "internal:collect") Q E s':=fun s' vs c k g1 g2 e it1=>by
  refine qaH (wpAny_load e (qaI (q vs.toList s' es ep tb ?_ ?_ k g1 g2)))
  ·obtain ⟨ob,o1,o2⟩:=hob
   obtain ⟨ob',es',ep',tb',⟨p1,p2,p3⟩,_⟩:=g
   have:=k1 _ _ p1
   rw [o1] at this
   cases this
   exact ⟨ob,p1,o2⟩
  ·have hl:ord.length=es.size:=by simpa using W.perm.length_eq
   have e2:vs.toList=ord.map (·.2):=by
    apply List.ext_getElem?
    intro i
    by_cases hi:i<es.size
    ·have hv0:i<vs.size:=by rw [it1.1];exact hi
     have hv:vs[i]? = some vs[i]:=by simp [hv0]
     obtain ⟨e,e1,e2⟩:=it1.2 i _ hv
     rw [List.getElem?_map,e1,qag,hv,e2]
     rfl
    ·rw [List.getElem?_eq_none (by simp [it1.1];omega),List.getElem?_eq_none (by simp [hl];omega)]
   rw [e2]
   exact W.perm.map _
 have Wk:=(W.walks A.in1 hh).toS
 refine qaI ⟨plainId_quiet F.plain_extend_loop _,codeAny_extend_loopS Wk ?_ _ nfp _ es.size 0 _ _ _ rfl (Nat.zero_le _) ?_ l4 (ItemsOf.nil _) fun s' vs c mv e it1=> ?_⟩
 ·exact fits_of_scanBound few
 ·exact (W.walks A.in1 hh).frame 0 h2 _ st0 fun b hb ob e=>oth b ob (fun z=>nfp (z▸hb)) e
 ·refine fin s' vs c (fun b ob e'=>mv.heap b ob ?_ (oth b ob ?_ (k12 b ob e'))) mv.gens mv.os e it1
  ·intro z
   rcases List.mem_cons.mp z with z | z
   ·exact qaA _ (z▸qaC e')
   ·simp only [List.mem_cons,qaw,or_false] at z
    have:=qaC e'
    rw [z] at this
    exact qaA _ (qap this (qaE (by rw [Heap.size_push];exact Nat.le_succ _) lit))
  ·exact fun z=>qaA _ (z▸qaC e')
end
noncomputable def zoG (x:Int):List Int->List Int
 | []=>[x]
 | y::r=>if x<=y then x::y::r else y::zoG x r
noncomputable def zdS:List Int->List Int
 | []=>[]
 | x::r=>zoG x (zdS r)
theorem zff (x:Int): ∀ l:List Int,List.Perm (zoG x l) (x::l)
 | []=> .rfl
 | y::r=>by
  unfold zoG
  split
  ·exact .rfl
  ·exact ((zff x r).cons y).trans (.swap x y r)
theorem zn8 {x z:Int} {l:List Int}:z∈zoG x l↔z=x\/z∈l:=by rw [(zff x l).mem_iff,List.mem_cons]
theorem zmp (x:Int): ∀ l:List Int,l.Pairwise (· <= ·)->(zoG x l).Pairwise (· <= ·)
 | [],_=>by unfold zoG;simp
 | y::r,h=>by
  obtain ⟨h1,h2⟩:=List.pairwise_cons.mp h
  unfold zoG
  split
  ·rename_i hxy
   refine List.pairwise_cons.mpr ⟨fun z hz=> ?_,h⟩
   rcases List.mem_cons.mp hz with e | hz
   ·rw [e];exact hxy
   ·exact Int.le_trans hxy (h1 z hz)
  ·rename_i hxy
   refine List.pairwise_cons.mpr ⟨fun z hz=> ?_,zmp x r h2⟩
   rcases zn8.mp hz with e | hz
   ·rw [e];omega
   ·exact h1 z hz
theorem zaU: ∀ l:List Int,List.Perm (zdS l) l
 | []=> .rfl
 | x::r=>(zff x _).trans ((zaU r).cons x)
theorem zds: ∀ l:List Int,(zdS l).Pairwise (· <= ·)
 | []=> .nil
 | x::r=>zmp x _ (zds r)
theorem zey {a b:List Int} (hp:a.Perm b) (h:a.Pairwise (· <= ·)):a=zdS b:=W.ksm_same (hp.trans (zaU b).symm) h (zds b)
noncomputable def zfm (ns:List Int):List Int:=zdS (ns.foldl step_dedup [])
theorem zlg (ns:List Int): ∀ (acc:List Int) (k:Int),(ns.foldl step_dedup acc).any (· == k)=(acc.any (· == k) || ns.any (· == k)):=by
 induction ns with
 | nil=>intro acc k;simp
 | cons x r ih=>
  intro acc k
  rw [List.foldl_cons,ih,step_any]
  simp only [List.any_cons]
  have:(x==k)=decide (k=x):=by
   by_cases h:k=x
   ·subst h;simp
   ·have h': ¬x=k:=fun e=>h e.symm
    simp [h,h']
  rw [this,Bool.or_assoc]
theorem zl4 {ns:List Int} {k:Int}:k∈ns.foldl step_dedup []↔k∈ns:=by
 have:=zlg ns [] k
 simp only [List.any_nil,Bool.false_or] at this
 have e: ∀ l:List Int,k∈l↔(l.any fun x=>x==k)=true:=fun l=>by
  rw [List.any_eq_true]
  constructor
  ·exact fun h=>⟨k,h,by simp⟩
  ·rintro ⟨x,h,c⟩
   have c:x=k:=by simpa using c
   rw [<- c]
   exact h
 rw [e,e,this]
theorem zeF (ns:List Int): ∀ acc:List Int,acc.Nodup->(ns.foldl step_dedup acc).Nodup:=by
 induction ns with
 | nil=>intro acc h;exact h
 | cons x r ih=>
  intro acc h
  refine ih _ ?_
  unfold step_dedup
  split
  ·exact h
  ·rename_i hx
   rw [List.nodup_append]
   refine ⟨h,by simp,fun a ha b hb=> ?_⟩
   simp only [List.mem_singleton] at hb
   subst hb
   intro e
   subst e
   exact hx (List.any_eq_true.mpr ⟨a,ha,by simp⟩)
theorem zcp {ns:List Int} {k:Int}:k∈zfm ns↔k∈ns:=by unfold zfm;rw [(zaU _).mem_iff,zl4]
theorem zeY (ns:List Int):(zfm ns).Pairwise (· < ·):=by
 have h1:=zds (ns.foldl step_dedup [])
 have h2:(zfm ns).Nodup:=(zaU _).nodup_iff.mpr (zeF ns [] List.nodup_nil)
 exact (List.Pairwise.and h1 h2).imp fun ⟨a,b⟩=>by omega
theorem zhX (ns:List Int):firstMet (fun i=>ns.getD i 0) ns.length=ns.foldl step_dedup []:=by
 unfold firstMet
 congr 1
 apply List.ext_getElem?
 intro i
 by_cases hi:i<ns.length
 ·simp [hi,List.getD]
 ·rw [List.getElem?_eq_none (by simp;omega),List.getElem?_eq_none (by omega)]
theorem ze6: ∀ {fm ms:List Int},fm.Nodup->(∀ k,k∈fm->k∈ms)->ms.length<=fm.length->List.Perm ms fm
 | [],ms,_,_,h=>by
  have:ms=[]:=List.length_eq_zero_iff.mp (by simpa using h)
  subst this
  exact .rfl
 | x::r,ms,nd,hm,h=>by
  obtain ⟨n1,n2⟩:=List.nodup_cons.mp nd
  have hx:=hm x (.head _)
  have p:=List.perm_cons_erase hx
  have hl:=p.length_eq
  rw [qav] at hl h
  refine p.trans ((ze6 n2 (fun k hk=> ?_) (by omega)).cons x)
  have hne:k≠x:=fun e=>n1 (e▸hk)
  rcases List.mem_cons.mp (p.mem_iff.mp (hm k (.tail _ hk))) with e | e
  ·exact absurd e hne
  ·exact e
section
variable {prog:Program} {w:World} {A:Around} {E:Value->Shared->Prop} {s:Shared}
theorem zgU {l l':List Value} {ns:List Int} (p:List.Perm l l') (h:IntsAre l' ns): ∃ ms,IntsAre l ms/\List.Perm ms ns:=by
 induction p generalizing ns with
 | nil=>exact ⟨ns,h,.rfl⟩
 | cons x _ ih=>
  cases h with
  | cons n t h=>
   obtain ⟨ms,h1,h2⟩:=ih h
   exact ⟨n::ms,.cons n t h1,h2.cons n⟩
 | swap x y l=>
  cases h with
  | cons n t h=>
   cases h with
   | cons n' t' h=>exact ⟨n'::n::_,.cons n' t' (.cons n t h),.swap _ _ _⟩
 | trans _ _ ih1 ih2=>
  obtain ⟨ms,h1,h2⟩:=ih2 h
  obtain ⟨ms',h3,h4⟩:=ih1 h1
  exact ⟨ms',h3,h4.trans h2⟩
theorem zfA: ∀ {es:List (Int×Value)},ElemsOf (intKind prog w) es-> ∃ ms,IntsAre (es.map (·.2)) ms/\ ∀ k,k∈ms↔ ∃ e∈es,(intKind prog w).is k e.2=true
 | [],_=>⟨[],.nil,fun k=>by simp⟩
 | e::r,h=>by
  obtain ⟨ms,h1,h2⟩:=zfA (ElemsOf.tail h)
  obtain ⟨⟨k,hk,_⟩,_⟩:=ElemsOf.head h
  obtain ⟨t,ht⟩:=Value.isInt_shape (k:=k) (v:=e.2) hk
  refine ⟨k::ms,by rw [qaz,ht];exact .cons k t h1,fun z=> ?_⟩
  rw [List.mem_cons,h2 z]
  constructor
  ·rintro (c | ⟨e',c1,c2⟩)
   ·exact ⟨e,.head _,by rw [c];exact hk⟩
   ·exact ⟨e',.tail _ c1,c2⟩
  ·rintro ⟨e',c1,c2⟩
   rcases List.mem_cons.mp c1 with c | c
   ·subst c;exact .inl ((intKind prog w).inj _ _ _ c2 hk)
   ·exact .inr ⟨e',c,c2⟩
theorem zeV {x:Value} {Q:Value->Shared->Prop} (hc: ∀ E':Value->Shared->Prop,wpAny (model prog w) A.in1 (collect x) (fun vs s1=> ∃ ns,IntsAre vs ns/\vs.length<64/\ ∀ out e h',IntsAre out (zdS ns)->(∀ b ob,s1.heap.get? b=some ob->h'.get? b=some ob)->
      h'.get? s1.heap.objs.size=some (seqObj "list" out.toArray e)->Q (.ref s1.heap.objs.size) {s1 with heap:=h'}) E' s):wpAny (model prog w) A (call (.builtin "sorted") [x]) Q E s:=by
 refine Calls.call_function_entry kind_sorted plain_sorted entry_sorted (args_sorted1 _) ?_
 unfold Builtin.«sorted»
 refine qaH (m:=checkCount "sorted" 1 1 _) (qaI ?_)
 refine qaH (m:=collect x) (qaK (hc _) (fun vs s1 ⟨ns,hI,h64,q⟩=> ?_) fun _ _ z=>z)
 have small:vs.length<=sizeLine:=qaE (Nat.le_of_lt h64) (by decide)
 refine qaH (wpAny_newList ?_ small)
 have at0:(s1.heap.push {cls:= .type "list",data:= .seq vs.toArray}).get? s1.heap.objs.size=some (seqObj "list" vs.toArray 0):=qal _ rfl
 refine qaH (qaB (wpAny_call_entry slot_list_sort ⟨_,at0,rfl⟩ entry_list_sort (list_sort_tree (s:={s1 with heap:=s1.heap.push {cls:= .type "list",data:= .seq vs.toArray}}) at0 hI h64 fun out ns' a1 a2 a3=>⟨_,rfl,?_⟩) (args_list_sort _)))
 obtain ⟨e,he⟩:=sortedHeap_at (out:=out) at0
 refine qaI ⟨_,rfl,q out.toList e _ ?_ (fun b ob eb=> ?_) (by simpa using he)⟩
 ·rw [<- zey a2 a3];exact a1
 ·have lt:=qaC eb
  rw [sortedHeap_old (qaD lt) (by rw [Heap.size_push];exact Nat.lt_succ_of_lt lt)]
  exact qad _ eb
theorem zhL {l:Addr} {vs:List Value} {Q:List Value->Shared->Prop} (hl:s.heap.IsTuple l vs.toArray) (small:vs.length<=sizeLine)
  (q: ∀ h',(∀ b ob,s.heap.get? b=some ob->h'.get? b=some ob)->Q vs {s with heap:=h'}):wpAny (model prog w) A (collect (.ref l)) Q E s:=by
 obtain ⟨ob,ho,hc,n,hd⟩:=id hl
 unfold collect
 refine qaH (wpAny_runValue (codeAny_builtin F.entry_proto_collect ?_))
 rw [Around.under_plainId F.plain_proto_collect _]
 show wpAny _ _ (newList []>>=fun d=>again (.builtin "list.__iadd__" ⟨[d,.ref l],[]⟩)) _ _ _
 refine qaH (qat (qaI ⟨plainId_quiet F.plain_list_iadd _,codeAny_builtin F.entry_list_iadd ?_⟩))
 rw [Around.under_plainId F.plain_list_iadd _]
 show wpAny _ _ (Builtin.List.listExtendWith (.ref s.heap.objs.size) (.ref l) (.ref s.heap.objs.size)) _ _ _
 unfold Builtin.List.listExtendWith
 have ho':(s.heap.push {cls:= .type "list",data:= .seq ([]:List Value).toArray}).get? l=some ob:=qad _ ho
 have d0:(s.heap.push {cls:= .type "list",data:= .seq ([]:List Value).toArray}).get? s.heap.objs.size=some (seqObj "list" #[] 0):=qal _ rfl
 refine qaH (wpAny_typeOf (T:="tuple") ⟨ob,ho',hc⟩ ?_)
 rw [if_pos (by simp)]
 refine qaH (listItems_at ho' hd ?_)
 refine qaH (listItems_at d0 rfl ?_)
 rw [if_neg (by simp)]
 refine qaH (listUpdate_at (xs:= #[]) (n:=0) d0 rfl ?_ (Nat.zero_le _) (by show (#[]++vs.toArray).size<=sizeLine+1;simp;omega))
 refine qaI ?_
 show wpAny _ _ (load s.heap.objs.size>>=fun o=>match o.data with | .seq xs _=>pure xs.toList | _=>unsupported "internal:collect") _ _ _
 refine qaH (wpAny_load (get?_update_seq d0 _) ?_)
 have z:=q ((s.heap.push {cls:= .type "list",data:= .seq ([]:List Value).toArray}).update s.heap.objs.size (Obj.mapSeq fun x=>x++vs.toArray)) fun b ob e=>(qae _ _ (fun z=>qaA _ (z▸qaC e))).trans (qad _ e)
 show wpAny _ _ (pure ((#[]:Array Value)++vs.toArray).toList) _ _ _
 rw [show ((#[]:Array Value)++vs.toArray).toList=vs by simp]
 exact qaI z
end
end LT
namespace L2
open PySem PySem.Spec PyProof.Rows LT
section
variable {X:Cx}
noncomputable def zlD (P:Program) (w:World) (p:Addr) (ns:List Int):HO:= .ext fun h=>zgB P w h p (fun z=>(ns.foldl step_dedup []).any (· == z)) (ns.foldl step_dedup []).length
theorem zma (hc:X.calm=true):zay X (.type "set") (fun xs H Q=> ∃ (a:Addr) (ns:List Int),xs=[.ref a]/\(SqL X.K H a (ns.map V.int)\/SqT X.K H a (ns.map V.int))/\ns.length<4000/\ ∀ p,H p=none->Q (.ref p) (upd H p (zlD X.prog X.w p ns))):=by
 intro pins s σ H xs us Q I r h
 obtain ⟨a,ns,rfl,hq,hl,q⟩:=h
 obtain ⟨u,rfl,rx⟩:=zdp r
 cases rx
 have fin: ∀ (items:Array Value),items.size=ns.length-> ∀ (h':Heap) (tk:Nat),zgB X.prog X.w h' s.heap.objs.size (fun z=>(firstMet (fun i=>ns.getD i 0) items.size).any (· == z)) (firstMet (fun i=>ns.getD i 0) items.size).length->(∀ b ob,s.heap.get? b=some ob->h'.get? b=some ob)->
   EP X pins σ Q (.ref s.heap.objs.size) {s with heap:=h',toks:=tk}:=fun items hz h' tk g k=>by
  rw [hz,zhX] at g
  refine ⟨.ref s.heap.objs.size,_,I.laid (t':=tk) (o:=zlD X.prog X.w s.heap.objs.size ns) k (qaG _) ⟨g,?_,fun h1 h2 z e=>z.move e (fun _=>rfl) rfl⟩,rfl,q _ (I.hok.fresh (qaG _))⟩
  obtain ⟨ob,es,ep,tb,⟨h1,_⟩,_⟩:=g
  exact ⟨ob,h1⟩
 have room:ns.length+1<scanBound:=by
  have:scanBound=4096:=rfl
  omega
 rcases hq with hq | hq
 ·obtain ⟨its,r',pl,_⟩:=I.list hq
  have hz:its.toArray.size=ns.length:=by rw [qar, <-r'.length,qax]
  exact zvv (I.ok.hd hc) (.inl ⟨rfl,pl.isList⟩) (by simpa using zbP r') (by rw [hz];exact room) fun h' tk g k=>fin _ hz h' tk g k
 ·obtain ⟨its,r',pl,_⟩:=I.tuple hq
  have hz:its.toArray.size=ns.length:=by rw [qar, <-r'.length,qax]
  exact zvv (I.ok.hd hc) (.inr ⟨rfl,pl⟩) (by simpa using zbP r') (by rw [hz];exact room) fun h' tk g k=>fin _ hz h' tk g k
theorem Inv.grown {pins:List (Addr×Obj)} {σ:St} {H:Hp} {s s':Shared} (I:Inv X pins σ H s) (ho:s'.os=s.os) (hg:s'.gens=s.gens) (k: ∀ b ob,s.heap.get? b=some ob->s'.heap.get? b=some ob):Inv X pins σ H s':=
 I.call' (ch:=[]) ho (Un.kept k) (I.hok.kept k) (by rw [hg];exact I.bare) fun b z=>nomatch z
theorem znL {out:List Value} {ms:List Int} (h:IntsAre out ms):zaV (ms.map V.int) out:=zeP h
theorem zgV (hc:X.calm=true):zay X (.builtin "sorted") (fun xs H Q=> ∃ (p:Addr) (ns:List Int),xs=[.ref p]/\((((ns.foldl step_dedup []).length<64/\H p=some (zlD X.prog X.w p ns))/\ ∀ l,H l=none->Q (.ref l) (upd H l (.lst ((zfm ns).map V.int))))\/
    ((ns.length<64/\(SqL X.K H p (ns.map V.int)\/SqT X.K H p (ns.map V.int)))/\ ∀ l,H l=none->Q (.ref l) (upd H l (.lst ((zdS ns).map V.int)))))):=by
 intro pins s σ H xs us Q I r h
 obtain ⟨p,ns,rfl,h⟩:=h
 obtain ⟨u,rfl,rx⟩:=zdp r
 cases rx
 have fin: ∀ (s1:Shared) (ms:List Int),ms.length<=64->(∀ b ob,s.heap.get? b=some ob->s1.heap.get? b=some ob)->s1.gens=s.gens->s1.os=s.os->(∀ l,H l=none->Q (.ref l) (upd H l (.lst ((zdS ms).map V.int))))-> ∀ out e h',IntsAre out (zdS ms)->(∀ b ob,s1.heap.get? b=some ob->h'.get? b=some ob)->
   h'.get? s1.heap.objs.size=some (seqObj "list" out.toArray e)->EP X pins σ Q (.ref s1.heap.objs.size) {s1 with heap:=h'}:=fun s1 ms hm k g1 o1 q out e h' hi k2 e2=>by
  have I1:=I.grown o1 g1 k
  refine ⟨.ref s1.heap.objs.size,_,I1.laid (t':=s1.toks) (o:= .lst ((zdS ms).map V.int)) k2 (qaG _) ⟨?_,out,e,znL hi,e2⟩,rfl,q _ (I1.hok.fresh (qaG _))⟩
  rw [qax,(zaU ms).length_eq]
  exact qaE hm (by decide)
 rcases h with ⟨⟨hl,hs⟩,q⟩ | ⟨⟨hl,hq⟩,q⟩
 ·obtain ⟨g,_⟩:=(show zbI X.prog X.w H s.heap p (zlD X.prog X.w p ns) from I.hok p _ hs)
  refine zeV fun E'=>znc (show X.A.in1.handled=none from I.ok.hd hc) g fun vs s1 es ep tb hob pv k g1 o1=> ?_
  obtain ⟨ob',es',ep',tb',⟨a1,a2,a3⟩,h4,h5,⟨h6,h7,h8⟩,h9⟩:=g
  obtain ⟨ob,b1,b2,b3⟩:=hob
  rw [a1] at b1
  cases b1
  rw [a3] at b3
  cases b3
  obtain ⟨ms,m1,m2⟩:=zfA h4
  obtain ⟨ms',m3,m4⟩:=zgU pv m1
  have len:ms.length=(ns.foldl step_dedup []).length:=by
   rw [<- m1.length,qax,qam]
   exact h8
  have pm:List.Perm ms (ns.foldl step_dedup []):=ze6 (zeF ns [] List.nodup_nil) (fun z hz=>by
    rw [m2 z, <-h5 z]
    exact List.any_eq_true.mpr ⟨z,hz,by simp⟩) (Nat.le_of_eq len)
  have es1:zdS ms'=zfm ns:=by
   unfold zfm
   exact zey ((zaU ms').trans (m4.trans pm)) (zds ms')
  have lm:ms'.length<64:=by
   rw [m4.length_eq,len]
   exact hl
  refine ⟨ms',m3,by rw [m3.length];omega,fun out e h' hi k2 e2=> ?_⟩
  exact fin s1 ms' (by omega) k g1 o1 (by rw [es1];exact q) out e h' hi k2 e2
 ·rcases hq with hq | hq
  ·obtain ⟨its,r',pl,hz⟩:=I.list hq
   have hi:=zbP r'
   have lz:its.length=ns.length:=by rw [<- r'.length,qax]
   refine zeV fun E'=>collect_list pl.isList ?_ (by rw [lz, <-qax (f:=V.int)];exact hz)
   refine ⟨ns,hi,by omega,fun out e h' hi2 k2 e2=> ?_⟩
   refine fin {s with heap:=(s.heap.push (seqObj "list" #[] 0)).update s.heap.objs.size (Obj.mapSeq fun x=>x++its.toArray)} ns (by omega) (fun b ob eb=> ?_) rfl rfl q out e h' hi2 k2 e2
   exact (qae _ _ (fun z=>qaA _ (z▸qaC eb))).trans (qad _ eb)
  ·obtain ⟨its,r',pl,hz⟩:=I.tuple hq
   have hi:=zbP r'
   have lz:its.length=ns.length:=by rw [<- r'.length,qax]
   refine zeV fun E'=>zhL pl (by rw [lz, <-qax (f:=V.int)];exact hz) fun h1 k1=> ?_
   refine ⟨ns,hi,by omega,fun out e h' hi2 k2 e2=> ?_⟩
   exact fin {s with heap:=h1} ns (by omega) k1 rfl rfl q out e h' hi2 k2 e2
theorem zlc (hc:X.calm=true):zay X (.builtin "all") (fun xs H Q=> ∃ (a:Addr) (bs:List Bool),xs=[.ref a]/\SqL X.K H a (bs.map V.bl)/\Q (.bl (bs.all id)) H):=by
 intro pins s σ H xs us Q I r h
 obtain ⟨a,bs,rfl,hq,q⟩:=h
 obtain ⟨u,rfl,rx⟩:=zdp r
 cases rx
 obtain ⟨its,r',pl,hz⟩:=I.list hq
 have hlt:a<s.heap.objs.size:=by obtain ⟨_,e,_⟩:=pl.isList;exact qaC e
 refine call_all_walk (wpAny_pyIter_list pl.isList ?_)
 refine ⟨s.heap.objs.size,[s.heap.objs.size,a],[s.heap.objs.size],its.toArray.size,_,_,fun i=>(bs[i]?).getD true,rfl,Walks.list (A:=X.A.in1) (I.ok.hd hc) _ a (qaD hlt) its.toArray,⟨⟨_,qal _ rfl,rfl,rfl⟩,pl.isList.push _⟩,fun i v s' Q' E' hP hQ=> ?_,fun h' tk hk=> ?_⟩
 ·have hv:its[i]? = some v:=by simpa using hP
  obtain ⟨hi,_⟩:=qab.mp hv
  have hlen:bs.length=its.length:=by rw [<- r'.length,qax]
  have hb:(bs.map V.bl)[i]? = some (V.bl bs[i]):=by simp [hlen,hi]
  obtain ⟨u',hu,ru⟩:=r'.get hb
  rw [hv] at hu
  cases hu
  cases ru
  have e:(bs[i]?).getD true=bs[i]:=by simp [hlen,hi]
  have hQ:Q' ((bs[i]?).getD true) s':=hQ
  rw [e] at hQ
  exact wpAny_truthy_bool hQ
 ·have e:((List.range its.toArray.size).all fun i=>(bs[i]?).getD true)=bs.all id:=by
   have hlen:bs.length=its.length:=by rw [<- r'.length,qax]
   rw [qar, <-hlen]
   rw [Bool.eq_iff_iff,List.all_eq_true,List.all_eq_true]
   constructor
   ·intro h x hx
    obtain ⟨i,hi⟩:=List.mem_iff_getElem?.mp hx
    have hl:=(qab.mp hi).1
    have:=h i (by simpa using hl)
    rw [hi] at this
    exact this
   ·intro h i hi
    have hl:i<bs.length:=by simpa using hi
    have e1:bs[i]? = some bs[i]:=by simp [hl]
    rw [e1]
    exact h _ (List.getElem_mem hl)
  rw [e]
  refine ⟨.bl _,H,I.grown (s':={s with heap:=h',toks:=tk}) rfl rfl fun b ob eb=>hk b ob (fun z=> ?_) (qad _ eb),rfl,q⟩
  simp only [List.mem_cons,qaw,or_false] at z
  exact qaA _ (z▸qaC eb)
theorem zms (hc:X.calm=true):zay X (.builtin "sum") (fun xs H Q=> ∃ (a:Addr) (ns:List Int),xs=[.ref a]/\SqL X.K H a (ns.map V.int)/\Q (.int ns.sum) H):=by
 intro pins s σ H xs us Q I r h
 obtain ⟨a,ns,rfl,hq,q⟩:=h
 obtain ⟨u,rfl,rx⟩:=zdp r
 cases rx
 obtain ⟨its,r',pl,hz⟩:=I.list hq
 have hi:=zbP r'
 obtain ⟨ys,hy⟩:=hi.allInts.items
 have hl:s.heap.IsList a (intItems ys):=hy▸pl.isList
 refine sum_intListG (I.ok.hd hc) hl fun h' tk t' hk=> ?_
 have e1:ns=ys.toList.map (·.1):=by
  rw [<- nums_intItems, <-hy]
  exact (show numsOf its.toArray.toList=ns from hi.numsOf).symm
 have e2:preSum (numAt ys) ys.size=ns.sum:=by rw [preSum_eq,List.take_of_length_le (by simp),e1]
 rw [e2]
 exact ⟨.int ns.sum,H,I.grown (s':={s with heap:=h',toks:=tk}) rfl rfl hk,⟨t',rfl⟩,q⟩
end
end L2
namespace L3
open PySem PySem.Spec PyProof.Rows L2 LT
section
variable {X:Cx} {E:XE} {e:Expr} {es:List Expr} {pos p:Pos} {fs:Sd->M (List D)} {x:Str}
theorem zm8 {id:String} {F:List D->M D} (hc:zay X (.builtin id) (zhD X.K E F)) (hg:Gl X x) (hm:X.mg x=none) (hv:bootBuiltins x=some (.builtin id)) (ha:SA X E (e::es) fs) (hn:x≠"__name__":=by decide) (hdb:(x==("__debug__":Str))=false:=by decide)
  (he:starEach (e::es) X.env=(false,eval e X.env)::starEach es X.env:=by rfl) (hpl:(backTo pos (starEach es X.env)).any (·.1)=false:=by rfl):SE X E (.Call (.Name x p) (e::es) [] pos) (fun sd=>do let ds<-fs sd;F ds):=
 PE.imp (zep hc hg hm hv ha hn hdb he hpl) fun σ H Q ⟨ι,h,sd,L,hh,q⟩=>⟨ι,h,sd,L,hh,Fin.bind q fun ds h1 ι1 H1 e1 s1 hr1 q1 vs rv=>⟨ι1,h1,ds,rv,hr1,q1⟩⟩
theorem zmm {T:String} {F:List D->M D} (hc:zay X (.type T) (zhD X.K E F)) (hg:Gl X x) (hm:X.mg x=none) (hv:bootBuiltins x=some (.type T)) (ha:SA X E (e::es) fs) (hn:x≠"__name__":=by decide) (hdb:(x==("__debug__":Str))=false:=by decide)
  (he:starEach (e::es) X.env=(false,eval e X.env)::starEach es X.env:=by rfl) (hpl:(backTo pos (starEach es X.env)).any (·.1)=false:=by rfl):SE X E (.Call (.Name x p) (e::es) [] pos) (fun sd=>do let ds<-fs sd;F ds):=
 PE.imp (zdz hc hg hm hv ha hn hdb he hpl) fun σ H Q ⟨ι,h,sd,L,hh,q⟩=>⟨ι,h,sd,L,hh,Fin.bind q fun ds h1 ι1 H1 e1 s1 hr1 q1 vs rv=>⟨ι1,h1,ds,rv,hr1,q1⟩⟩
noncomputable def zlO:D->M (List D)
 | .tup ds=>pure ds
 | .lst ds=>pure ds
 | .scr ds=>pure ds
 | .cel n=>zaj n
 | _=>M.bad
theorem zcS {K:W.Frag} {ι:Io} {H:Hp} {h:Hh} {d:D} {v:V} {α:Type} {f:List D->M α} {P:α->Io->Hp->Prop} (hr:za1 K ι H h) (r:Rel K ι H d v) (q:Fin K E ι H ((do let ds<-zlO d;f ds) h) P):
  ∃ a vs ds,v= .ref a/\((SqL K H a vs/\ ∀ ts,d≠ .tup ts)\/(SqT K H a vs/\d= .tup ds))/\zal K ι H ds vs/\Fin K E ι H (f ds h) P:=by
 cases d with
 | tup ds=>
  obtain ⟨a,vs,e,h1,h2⟩:=zcm r
  exact ⟨a,vs,ds,e,.inr ⟨h1,rfl⟩,h2,q⟩
 | lst ds=>
  obtain ⟨a,vs,e,h1,h2⟩:=zc4 r
  exact ⟨a,vs,ds,e,.inl ⟨h1,fun _ z=>by cases z⟩,h2,q⟩
 | scr ds=>
  obtain ⟨a,vs,e,h1,h2⟩:=zkk r
  exact ⟨a,vs,ds,e,.inl ⟨h1,fun _ z=>by cases z⟩,h2,q⟩
 | cel n=>
  have q':Fin K E ι H (M.bind (zaj n) f h) P:=q
  unfold M.bind at q'
  cases z:zaj n h with
  | bad=>rw [z] at q';exact False.elim q'
  | exc c h'=>unfold zaj at z;split at z<;>cases z
  | ok ds h'=>
   rw [z] at q'
   obtain ⟨rfl,z2⟩:=zci z
   obtain ⟨a,vs,e,hn,hH,rl⟩:=hr.read r z2
   exact ⟨a,vs,ds,e,.inl ⟨SqL.of hH,fun _ z=>by cases z⟩,rl,q'⟩
 | _=>exact False.elim q
theorem zp7 {K:W.Frag} {H:Hp} {a:Addr} {vs:List V} {d:D} {ds:List D} (h:(SqL K H a vs/\ ∀ ts,d≠ .tup ts)\/(SqT K H a vs/\d= .tup ds)):SqL K H a vs\/SqT K H a vs:=h.imp And.left And.left
theorem ztH {K:W.Frag} {ι:Io} {H:Hp} {d:D} {xs:List V} (h:zal K ι H [d] xs): ∃ v,xs=[v]/\Rel K ι H d v:=by
 simp only [zal] at h
 obtain ⟨v,r,rfl,h1,rfl⟩:=h
 exact ⟨v,rfl,h1⟩
noncomputable def zmc {α:Type} (f:D->M α):List D->M α
 | [d]=>f d
 | _=>M.bad
theorem zb3 {α:Type} {K:W.Frag} {ι:Io} {H:Hp} {h:Hh} {f:D->M α} {ds:List D} {xs:List V} {P:α->Io->Hp->Prop} (rl:zal K ι H ds xs) (q:Fin K E ι H (zmc f ds h) P): ∃ d v,xs=[v]/\Rel K ι H d v/\Fin K E ι H (f d h) P:=by
 match ds,rl,q with
 | [d],rl,q=>
  obtain ⟨v,e,r⟩:=ztH rl
  exact ⟨d,v,e,r,q⟩
 | [],_,q=>exact False.elim q
 | _::_::_,_,q=>exact False.elim q
noncomputable def zeL:List D->M D:=zmc fun d=>do let ds<-zlO d;pure (.int ds.length)
theorem zaN:zay X (.builtin "len") (zhD X.K E zeL):=by
 refine zay.imp zgG fun xs H Q ⟨ι,h,ds,rl,hr,q⟩=> ?_
 obtain ⟨d,v,e,r,q⟩:=zb3 rl q
 obtain ⟨a,vs,ds',e',hs,rl',q⟩:=zcS hr r q
 exact ⟨a,vs,by rw [e,e'],zp7 hs,Fin.out hr q _ (by rw [rl'.length];simp [Rel])⟩
noncomputable def zc5:List D->M D:=zmc fun d=>do let ds<-zlO d;pure (.tup ds)
theorem zbS:zay X (.type "tuple") (zhD X.K E zc5):=by
 refine zay.imp zgi fun xs H Q ⟨ι,h,ds,rl,hr,q⟩=> ?_
 obtain ⟨d,v,e,r,q⟩:=zb3 rl q
 obtain ⟨a,vs,ds',e',hs,rl',q⟩:=zcS hr r q
 refine ⟨a,vs,by rw [e,e'],?_⟩
 rcases hs with ⟨hs,_⟩ | ⟨hs,hd⟩
 ·exact .inl ⟨hs,fun l hl=>zqS hr rl' q hl⟩
 ·exact .inr ⟨hs,Fin.out hr q _ (by rw [<- e', <-hd];exact r)⟩
noncomputable def zt0:List D->M D:=zmc fun d=>do let ds<-zlO d;pure (.lst ds)
noncomputable def two2 (g:Int->Int->Int):List D->M D
 | [.int i,.int j]=>pure (.int (g i j))
 | _=>M.bad
theorem two2_inv {K:W.Frag} {ι:Io} {H:Hp} {h:Hh} {g:Int->Int->Int} {ds:List D} {xs:List V} {P:D->Io->Hp->Prop} (hr:za1 K ι H h) (rl:zal K ι H ds xs) (q:Fin K E ι H (two2 g ds h) P): ∃ i j,xs=[.int i,.int j]/\P (.int (g i j)) ι H:=by
 unfold two2 at q
 split at q
 ·simp only [zal,Rel] at rl
  obtain ⟨v,r,rfl,rfl,v',r',rfl,rfl,rfl⟩:=rl
  exact ⟨_,_,rfl,Fin.out hr q⟩
 ·exact False.elim q
noncomputable def zqb:=two2 fun i j=>if j>i then j else i
noncomputable def zps:=two2 fun i j=>if j<i then j else i
theorem zj0 (hc:X.calm=true):zay X (.builtin "max") (zhD X.K E zqb):=by
 refine zay.imp (zmq hc) fun xs H Q ⟨ι,h,ds,rl,hr,q⟩=> ?_
 obtain ⟨i,j,e,q⟩:=two2_inv hr rl q
 exact ⟨i,j,e,q _ (by simp [Rel])⟩
theorem zjW (hc:X.calm=true):zay X (.builtin "min") (zhD X.K E zps):=by
 refine zay.imp (zkU hc) fun xs H Q ⟨ι,h,ds,rl,hr,q⟩=> ?_
 obtain ⟨i,j,e,q⟩:=two2_inv hr rl q
 exact ⟨i,j,e,q _ (by simp [Rel])⟩
noncomputable def zlx:List D->Option (List Bool)
 | []=>some []
 | .bl b::r=>(zlx r).map (b:: ·)
 | _=>none
noncomputable def zc1:List D->Option (List Int)
 | []=>some []
 | .int i::r=>(zc1 r).map (i:: ·)
 | _=>none
theorem zev {K:W.Frag} {ι:Io} {H:Hp}: ∀ {ds:List D} {vs:List V} {bs:List Bool},zal K ι H ds vs->zlx ds=some bs->vs=bs.map V.bl
 | [],_,_,h,e=>by simp only [zal] at h;subst h;cases e;rfl
 | d::ds,_,bs,h,e=>by
  simp only [zal] at h
  obtain ⟨v,r,rfl,h1,h2⟩:=h
  cases d with
  | bl b=>
   unfold zlx at e
   cases z:zlx ds with
   | none=>rw [z] at e;cases e
   | some cs=>
    rw [z] at e
    cases e
    simp only [Rel] at h1
    rw [h1,zev h2 z]
    rfl
  | _=>cases e
theorem zdv {K:W.Frag} {ι:Io} {H:Hp}: ∀ {ds:List D} {vs:List V} {bs:List Int},zal K ι H ds vs->zc1 ds=some bs->vs=bs.map V.int
 | [],_,_,h,e=>by simp only [zal] at h;subst h;cases e;rfl
 | d::ds,_,bs,h,e=>by
  simp only [zal] at h
  obtain ⟨v,r,rfl,h1,h2⟩:=h
  cases d with
  | int b=>
   unfold zc1 at e
   cases z:zc1 ds with
   | none=>rw [z] at e;cases e
   | some cs=>
    rw [z] at e
    cases e
    simp only [Rel] at h1
    rw [h1,zdv h2 z]
    rfl
  | _=>cases e
theorem Fin.ofOb {α β:Type} {K:W.Frag} {ι:Io} {H:Hp} {h:Hh} {o:Option α} {f:α->M β} {P:β->Io->Hp->Prop} (q:Fin K E ι H ((do let a<-L3.ofO o;f a) h) P): ∃ a,o=some a/\Fin K E ι H (f a h) P:=by
 cases o with
 | none=>exact False.elim q
 | some a=>exact ⟨a,rfl,q⟩
noncomputable def zuD:List D->M D:=zmc fun d=>match d with
 | .lst ds=>do let bs<-ofO (zlx ds);pure (.bl (bs.all id))
 | _=>M.bad
theorem zl0 (hc:X.calm=true):zay X (.builtin "all") (zhD X.K E zuD):=by
 refine zay.imp (zlc hc) fun xs H Q ⟨ι,h,ds,rl,hr,q⟩=> ?_
 obtain ⟨d,v,e,r,q⟩:=zb3 rl q
 cases d with
 | lst ds=>
  obtain ⟨a,vs,e',h1,h2⟩:=zc4 r
  obtain ⟨bs,eb,q⟩:=Fin.ofOb q
  have:=zev h2 eb
  subst this
  exact ⟨a,bs,by rw [e,e'],h1,Fin.out hr q _ (by simp [Rel])⟩
 | _=>exact False.elim q
noncomputable def zuw:List D->M D:=zmc fun d=>match d with
 | .lst ds=>do let bs<-ofO (zc1 ds);pure (.int bs.sum)
 | _=>M.bad
theorem zlR (hc:X.calm=true):zay X (.builtin "sum") (zhD X.K E zuw):=by
 refine zay.imp (zms hc) fun xs H Q ⟨ι,h,ds,rl,hr,q⟩=> ?_
 obtain ⟨d,v,e,r,q⟩:=zb3 rl q
 cases d with
 | lst ds=>
  obtain ⟨a,vs,e',h1,h2⟩:=zc4 r
  obtain ⟨bs,eb,q⟩:=Fin.ofOb q
  have:=zdv h2 eb
  subst this
  exact ⟨a,bs,by rw [e,e'],h1,Fin.out hr q _ (by simp [Rel])⟩
 | _=>exact False.elim q
noncomputable def zdF (d:D):M D:=do
 let ds<-zlO d
 let ns<-ofO (zc1 ds)
 if (ns.foldl step_dedup []).length<64/\ns.length<4000 then pure (.lst ((zfm ns).map D.int)) else M.bad
theorem zjP {p1 p2 pos2:Pos} {f:Sd->M D} (hc:X.calm=true) (hg1:Gl X "sorted") (hm1:X.mg "sorted"=none) (hg2:Gl X "set") (hm2:X.mg "set"=none) (he:SE X E e f)
  (h1:starEach [.Call (.Name "set" p2) [e] [] pos2] X.env=[(false,eval (.Call (.Name "set" p2) [e] [] pos2) X.env)]:=by rfl) (h2:starEach [e] X.env=[(false,eval e X.env)]:=by rfl):
  SE X E (.Call (.Name "sorted" p1) [.Call (.Name "set" p2) [e] [] pos2] [] pos) (fun sd=>do let d<-f sd;zdF d):=by
 refine PE.imp (zep (zgV hc) hg1 hm1 boot_sorted (zbK (zdz (zma hc) hg2 hm2 PyProof.Rows.boot_set (zbK he zdc h2) (he:=h2)) zdc h1) (he:=h1)) fun σ H Q ⟨ι,h,sd,L,hh,q⟩=>⟨ι,h,sd,L,hh,Fin.bind q fun d h1 ι1 H1 e1 s1 hr1 q1 v rv=> ?_⟩
 obtain ⟨a,vs,ds',e',hs,rl',q2⟩:=zcS hr1 rv q1
 obtain ⟨ns,en,q3⟩:=Fin.ofOb q2
 have:=zdv rl' en
 subst this
 obtain ⟨hl,q4⟩:=Fin.guard q3
 refine ⟨a,ns,by rw [e'],zp7 hs,hl.2,fun p hp=> ?_⟩
 have hr2:za1 X.K ι1 (upd H1 p (zlD X.prog X.w p ns)) h1:=hr1.laid hp
 exact ⟨p,ns,rfl,.inl ⟨⟨hl.1,zaL⟩,fun l hl'=>zqI hr2 (zcM.mpr rfl) (Fin.step (hr1.laidS hp) q4) hl'⟩⟩
end
noncomputable def tyD:D->M String
 | .non=>pure "NoneType"
 | .bl _=>pure "bool"
 | .int _=>pure "int"
 | .str _=>pure "str"
 | .tup _=>pure "tuple"
 | .lst _=>pure "list"
 | .dct=>pure "dict"
 | .cel n=>do let _<-zaj n;pure "list"
 | _=>M.bad
noncomputable def zlM:List String:=["NoneType","bool","int","str","tuple","list","dict"]
noncomputable def isB (T t:String):Bool:=t==T || (t=="bool" && T=="int")
noncomputable def zhE (T:String) (d:D):M D:=do let t<-tyD d;pure (.bl (isB T t))
noncomputable def zhP (T:String):Prop:= ∀ (K:W.Frag), ∀ t∈zlM,W.kitOne K (.type t) (.type T)=some (isB T t)
noncomputable def zvr (t T:String):Option Bool:=if ((Value.type t)==(Value.type T))=true then some true else if W.kitMeta T=true then (fastBuiltinMro t).map (·.contains (Value.type T)) else none
theorem zem {T:String} (h:(zlM.all fun t=>zvr t T==some (isB T t))=true):zhP T:=fun K t ht=>by
 have:=List.all_eq_true.mp h t ht
 have e:W.kitOne K (.type t) (.type T)=zvr t T:=rfl
 rw [e]
 exact beq_iff_eq.mp this
theorem zl5:zhP "int":=zem (by decide +kernel)
theorem ziT:zhP "bool":=zem (by decide +kernel)
theorem zk3:zhP "tuple":=zem (by decide +kernel)
theorem ziZ:zhP "list":=zem (by decide +kernel)
section
variable {X:Cx} {E:XE} {α:Type}
theorem zqr {K:W.Frag} {ι:Io} {H:Hp} {h:Hh} {d:D} {v:V} {f:String->M α} {P:α->Io->Hp->Prop} (hr:za1 K ι H h) (r:Rel K ι H d v) (q:Fin K E ι H ((do let t<-tyD d;f t) h) P):
  ∃ t,t∈zlM/\ziy K H v (.type t)/\Fin K E ι H (f t h) P:=by
 cases d with
 | non=>simp only [Rel] at r;subst r;exact ⟨_,by decide,.non,q⟩
 | bl b=>simp only [Rel] at r;subst r;exact ⟨_,by decide,.bl b,q⟩
 | int b=>simp only [Rel] at r;subst r;exact ⟨_,by decide,.int b,q⟩
 | str b=>simp only [Rel] at r;subst r;exact ⟨_,by decide,.str b,q⟩
 | tup ds=>
  simp only [Rel] at r
  obtain ⟨a,vs,e,h1,h2⟩:=r
  subst e
  exact ⟨_,by decide,.tup h1.1,q⟩
 | lst ds=>
  simp only [Rel] at r
  obtain ⟨a,vs,e,h1,h2⟩:=r
  subst e
  exact ⟨_,by decide,.lst h1.1,q⟩
 | dct=>
  simp only [Rel] at r
  obtain ⟨a,e,h1,h2⟩:=r
  subst e
  exact ⟨_,by decide,.dK h1,q⟩
 | cel n=>
  have q':Fin K E ι H (M.bind (zaj n) (fun _=>f "list") h) P:=by
   have e:(do let t<-tyD (.cel n);f t:M α)=(zaj n>>=fun _=>f "list"):=by
    show ((zaj n>>=fun _=>pure "list")>>=f)=_
    simp only [bind_assoc,pure_bind]
   rw [e] at q
   exact q
  unfold M.bind at q'
  cases z:zaj n h with
  | bad=>rw [z] at q';exact False.elim q'
  | exc c h'=>unfold zaj at z;split at z<;>cases z
  | ok ds h'=>
   rw [z] at q'
   obtain ⟨rfl,z2⟩:=zci z
   obtain ⟨a,vs,e,hn,hH,rl⟩:=hr.read r z2
   subst e
   exact ⟨_,by decide,.lst hH,q'⟩
 | _=>exact False.elim q
theorem znl:zay X (.builtin "isinstance") (fun xs H Q=> ∃ x t T b,xs=[x,.ty T]/\ziy X.K H x t/\W.kitOne X.K t (.type T)=some b/\Q (.bl b) H):=by
 intro pins s σ H xs us Q I r h
 obtain ⟨x,t,T,b,rfl,ty,e,q⟩:=h
 cases r with
 | cons r1 r2=>
  cases r2 with
  | cons r3 r4=>
   cases r4
   cases r3
   exact zmx I r1 ty e fun tk=>⟨.bl b,H,I.tok tk,rfl,q⟩
theorem ztb {a:Expr} {x:Str} {T:String} {p1 p2 pos:Pos} {fa:Sd->M D} (hk:zhP T) (hg:Gl X "isinstance") (hm:X.mg "isinstance"=none) (hgT:Gl X x) (hmT:X.mg x=none) (hvT:bootBuiltins x=some (.type T)) (ha:SE X E a fa)
  (hn:x≠"__name__":=by decide) (hd:(x==("__debug__":Str))=false:=by decide)
  (h1:starEach [a,.Name x p2] X.env=(false,eval a X.env)::starEach [.Name x p2] X.env:=by rfl) (h2:starEach [.Name x p2] X.env=[(false,eval (.Name x p2) X.env)]:=by rfl)
  (hpl:(backTo pos (starEach [.Name x p2] X.env)).any (·.1)=false:=by rfl):
  SE X E (.Call (.Name "isinstance" p1) [a,.Name x p2] [] pos) (fun sd=>do let d<-fa sd;zhE T d):=by
 refine PE.imp (zep znl hg hm PyProof.Rows.boot_isinstance (zbK ha (zbK (zqJ (v:= .ty T) hgT hmT hvT rfl hn hd) zdc h2) h1) (he:=h1) (hpl:=hpl)) fun σ H Q ⟨ι,h,sd,L,hh,q⟩=>⟨ι,h,sd,L,hh,Fin.bind q fun d h1 ι1 H1 e1 s1 hr1 q1 v rv=> ?_⟩
 obtain ⟨t,ht,ty,q2⟩:=zqr hr1 rv q1
 exact ⟨v,.type t,T,isB T t,rfl,ty,hk X.K t ht,Fin.out hr1 q2 _ (by simp [Rel])⟩
noncomputable def ztk:D->D->M D
 | .bl a,.bl b=>pure (.bl (a != b))
 | _,_=>M.bad
noncomputable def zkf (xs:List D) (lo hi:Option Int):List D:=(xs.drop (HT.sIx xs.length 0 lo)).take (HT.sIx xs.length xs.length hi - HT.sIx xs.length 0 lo)
noncomputable def dSl (d:D) (lo hi:Option Int):M D:=match d with
 | .tup ds=>pure (.tup (zkf ds lo hi))
 | .lst ds=>pure (.lst (zkf ds lo hi))
 | _=>M.bad
noncomputable def zvC (K:W.Frag) (E:XE) (f:Sd->M (Option Int)):TO:=fun σ H Q=> ∃ ι h sd,zbZ K ι H sd σ/\za1 K ι H h/\Fin K E ι H (f sd h) fun o ι' H'=>Q o H'
noncomputable abbrev SO (X:Cx) (E:XE) (e:Option Expr) (f:Sd->M (Option Int)):Prop:=PO X e (zvC X.K E f)
theorem PO.imp {e:Option Expr} {t t':TO} (h:PO X e t) (m: ∀ σ H Q,t' σ H Q->t σ H Q):PO X e t':=fun pins s σ H Q I q=>h pins s σ H Q I (m _ _ _ q)
noncomputable def zjH:Sd->M (Option Int):=fun _=>pure none
noncomputable def zpq:D->M (Option Int)
 | .int i=>pure (some i)
 | _=>M.bad
noncomputable def zjO (f:Sd->M D):Sd->M (Option Int):=fun sd=>do let d<-f sd;zpq d
theorem zga:SO X E none zjH:=PO.imp zqA fun σ H Q ⟨ι,h,sd,L,hh,q⟩=>Fin.out hh q
theorem zgu {e:Expr} {f:Sd->M D} (h:SE X E e f):SO X E (some e) (zjO f):=by
 refine PO.imp (zpY h) fun σ H Q ⟨ι,h,sd,L,hh,q⟩=>⟨ι,h,sd,L,hh,Fin.bind q fun d h1 ι1 H1 e1 s1 hr1 q1 v rv=> ?_⟩
 cases d with
 | int i=>simp only [Rel] at rv;exact ⟨i,rv,Fin.out hr1 q1⟩
 | _=>exact False.elim q1
noncomputable def cSl (f:Sd->M D) (lo hi:Sd->M (Option Int)):Sd->M D:=fun sd=>do let d<-f sd;let l<-lo sd;let u<-hi sd;dSl d l u
theorem zez {e:Expr} {lo hi:Option Expr} {p2 pos:Pos} {f:Sd->M D} {fl fh:Sd->M (Option Int)} (he:SE X E e f) (hl:SO X E lo fl) (hu:SO X E hi fh):SE X E (.Subscript e (.Slice lo hi none p2) pos) (cSl f fl fh):=by
 refine PE.imp (zn9 (zpP.or (zrk.or zpp)) he hl hu) fun σ H Q ⟨ι,h,sd,L,hh,q⟩=>⟨ι,h,sd,L,hh,Fin.bind q fun d h1 ι1 H1 e1 s1 hr1 q1 v rv=> ?_⟩
 refine ⟨ι1,h1,sd,L.step s1,hr1,Fin.bind q1 fun l h2 ι2 H2 e2 s2 hr2 q2=> ?_⟩
 refine ⟨ι2,h2,sd,(L.step s1).step s2,hr2,Fin.bind q2 fun u h3 ι3 H3 e3 s3 hr3 q3=> ?_⟩
 have rv3:=(rv.step s2).step s3
 cases d with
 | tup ds=>
  obtain ⟨a,vs,e,k1,k2⟩:=zcm rv3
  by_cases hw:HT.sIx vs.length 0 l=0/\HT.sIx vs.length vs.length u=vs.length
  ·refine .inl ⟨a,vs,e,k1,hw,?_⟩
   have ec:zkf ds l u=ds:=by
    unfold zkf
    rw [k2.length,hw.1,hw.2, <-k2.length]
    simp
   refine Fin.out hr3 q3 _ ?_
   rw [ec, <-e]
   exact rv3
  ·refine .inr (.inl ⟨a,vs,e,k1,hw,fun p hp=>zqS hr3 ?_ q3 hp⟩)
   unfold zkf zoy
   rw [k2.length]
   exact zal.take _ (zal.drop _ k2)
 | lst ds=>
  obtain ⟨a,vs,e,k1,k2⟩:=zc4 rv3
  refine .inr (.inr ⟨a,vs,e,k1,fun p hp=>zqI hr3 ?_ q3 hp⟩)
  unfold zkf zoy
  rw [k2.length]
  exact zal.take _ (zal.drop _ k2)
 | _=>exact False.elim q3
noncomputable def zvO:D->M D
 | .tup ds=>pure (.tup ds.reverse)
 | _=>M.bad
noncomputable def zqG (x y:D):M D:=match x,y with
 | .int i,.int j=>if (za0 i || za0 j)=true then pure (.int (i*j)) else M.bad
 | .tup xs,.int k=>if xs≠[]/\2<=k/\k<1000/\xs.length*k.toNat<=sizeLine then pure (.tup (List.replicate k.toNat xs).flatten) else M.bad
 | _,_=>M.bad
theorem zal.rep {K:W.Frag} {ι:Io} {H:Hp} {ds:List D} {vs:List V} (h:zal K ι H ds vs): ∀ n,zal K ι H (List.replicate n ds).flatten (List.replicate n vs).flatten
 | 0=>zal.nil
 | n+1=>by
  rw [List.replicate_succ,List.replicate_succ,List.flatten_cons,List.flatten_cons]
  exact zal.append h (zal.rep h n)
theorem zme:OpR X (binaryOp .Mult) (zcT X.K E zqG):=by
 refine OpR.imp (zr8.or zpo) fun x y H Q ⟨ι,h,d1,d2,r1,r2,hr,q⟩=> ?_
 unfold zqG at q
 split at q
 ·simp only [Rel] at r1 r2
  obtain ⟨c,q⟩:=Fin.guard q
  refine .inl ⟨_,_,r1,r2,?_,Fin.out hr q _ (by simp [Rel])⟩
  rcases (Bool.or_eq_true _ _).mp c with z | z
  ·exact .inl (zcz z)
  ·exact .inr (zcz z)
 ·simp only [Rel] at r2
  obtain ⟨a,vs,e,k1,k2⟩:=zcm r1
  obtain ⟨⟨c1,c2,c3,c4⟩,q⟩:=Fin.guard q
  refine .inr ⟨a,_,vs,e,r2,k1,fun z=>c1 ?_,c2,c3,by rw [<- k2.length];exact c4,fun p hp=>zqS hr (k2.rep _) q hp⟩
  subst z
  exact List.eq_nil_of_length_eq_zero k2.length
 ·exact False.elim q
theorem zjw {pins:List (Addr×Obj)} {σ:L2.St} {H:Hp} {s:Shared} (I:Inv X pins σ H s):sysModules<s.heap.objs.size:=
 Nat.lt_trans (by decide) (show mainGlobals<s.heap.objs.size from (I.mod.glob.keeps I.bk).lt)
theorem zm9 {pos:Pos}:PE X (.Dict [] [] pos) (fun _ H Q=> ∀ p,H p=none->Q (.ref p) (upd H p (.dK []))):=fun pins s σ H Q I h=>
 wpAny_Dict_empty ⟨.ref s.heap.objs.size,_,I.laid (a:=s.heap.objs.size) (o:= .dK []) (t':=s.toks) (fun _ _ q=>qad _ q) (qaG _)
   ⟨Nat.zero_le _,beq_eq_false_iff_ne.mpr (Ne.symm (qaD (zjw I))),[],.nil,Heap.DictOf.new s.heap⟩,rfl,h _ (I.hok.fresh (qaG _))⟩
mutual
noncomputable def pdH (h:Hh):D->Option PyData
 | .non=>some .none
 | .bl b=>some (.bool b)
 | .int i=>some (.int i)
 | .str x=>some (.str x)
 | .tup xs=>(zj5 h xs).map .tuple
 | .lst xs=>(zj5 h xs).map .list
 | .cel n=>match h[n]? with
  | some (.lst ds)=>(pdL ds).map .list
  | _=>none
 | _=>none
noncomputable def zj5 (h:Hh):List D->Option (List PyData)
 | []=>some []
 | x::xs=>match pdH h x,zj5 h xs with
  | some a,some r=>some (a::r)
  | _,_=>none
end
mutual
theorem zhy {pins:List (Addr×Obj)} {σ:L2.St} {H:Hp} {s:Shared} {ι:Io} {h:Hh} (I:Inv X pins σ H s) (hr:za1 X.K ι H h): ∀ {d:D} {v:V} {u:Value} {p:PyData},Rel X.K ι H d v->zbj v u->pdH h d=some p-> ∃ as,Reads s.heap u p as
 | .non,v,u,p,r,ru,e=>by simp only [Rel] at r;subst r;cases ru;simp only [pdH] at e;cases e;exact ⟨_,.none⟩
 | .bl b,v,u,p,r,ru,e=>by simp only [Rel] at r;subst r;cases ru;simp only [pdH] at e;cases e;exact ⟨_,.bool _⟩
 | .int i,v,u,p,r,ru,e=>by simp only [Rel] at r;subst r;obtain ⟨t,rfl⟩:=ru;simp only [pdH] at e;cases e;exact ⟨_,.int _ _⟩
 | .str i,v,u,p,r,ru,e=>by simp only [Rel] at r;subst r;obtain ⟨t,rfl⟩:=ru;simp only [pdH] at e;cases e;exact ⟨_,.str _ _⟩
 | .tup ds,v,u,p,r,ru,e=>by
  obtain ⟨a,vs,rfl,h1,h2⟩:=zcm r
  cases ru
  obtain ⟨its,rv,pl,_⟩:=I.tuple h1
  obtain ⟨o,ho,hc,n,hd⟩:=pl
  simp only [pdH] at e
  cases z:zj5 h ds with
  | none=>rw [z] at e;cases e
  | some ps=>
   rw [z] at e;cases e
   obtain ⟨as,q⟩:=zhG I hr h2 rv z
   exact ⟨_,.tuple ho hc hd (by simpa using q)⟩
 | .lst ds,v,u,p,r,ru,e=>by
  obtain ⟨a,vs,rfl,h1,h2⟩:=zc4 r
  cases ru
  obtain ⟨its,rv,pl,_⟩:=I.list h1
  obtain ⟨o,ho,hc,n,hd⟩:=pl.isList
  simp only [pdH] at e
  cases z:zj5 h ds with
  | none=>rw [z] at e;cases e
  | some ps=>
   rw [z] at e;cases e
   obtain ⟨as,q⟩:=zhG I hr h2 rv z
   exact ⟨_,.list ho hc hd (by simpa using q)⟩
 | .cel m,v,u,p,r,ru,e=>by
  simp only [pdH] at e
  cases z0:h[m]? with
  | none=>rw [z0] at e;cases e
  | some c=>
   rw [z0] at e
   cases c with
   | dead=>cases e
   | dic _=>cases e
   | lst ds=>
    obtain ⟨a,vs,rfl,hn,hH,rl⟩:=hr.read r z0
    cases ru
    obtain ⟨its,rv,pl,_⟩:=I.list (SqL.of hH)
    obtain ⟨o,ho,hc,n,hd⟩:=pl.isList
    cases z:pdL ds with
    | none=>simp only [z] at e;cases e
    | some ps=>
     simp only [z] at e;cases e
     obtain ⟨as,q⟩:=zha I rl rv z
     exact ⟨_,.list ho hc hd (by simpa using q)⟩
 | .scr ds,_,_,_,_,_,e=>by simp only [pdH] at e;cases e
 | .set xs,_,_,_,_,_,e=>by simp only [pdH] at e;cases e
 | .dct,_,_,_,_,_,e=>by simp only [pdH] at e;cases e
 | .fn _,_,_,_,_,_,e=>by simp only [pdH] at e;cases e
 | .exn _,_,_,_,_,_,e=>by simp only [pdH] at e;cases e
theorem zhG {pins:List (Addr×Obj)} {σ:L2.St} {H:Hp} {s:Shared} {ι:Io} {h:Hh} (I:Inv X pins σ H s) (hr:za1 X.K ι H h): ∀ {ds:List D} {vs:List V} {us:List Value} {ps:List PyData},zal X.K ι H ds vs->zaV vs us->zj5 h ds=some ps-> ∃ as,ReadsAll s.heap us ps as
 | [],vs,us,ps,r,ru,e=>by simp only [zal] at r;subst r;cases ru;simp only [zj5] at e;cases e;exact ⟨_,.nil⟩
 | d::ds,vs,us,ps,r,ru,e=>by
  simp only [zal] at r
  obtain ⟨v,vr,rfl,r1,r2⟩:=r
  cases ru with
  | cons ru1 ru2=>
   simp only [zj5] at e
   cases z:pdH h d with
   | none=>rw [z] at e;cases e
   | some a=>
    cases z2:zj5 h ds with
    | none=>rw [z,z2] at e;cases e
    | some b=>
     rw [z,z2] at e
     cases e
     obtain ⟨as,q1⟩:=zhy I hr r1 ru1 z
     obtain ⟨bs,q2⟩:=zhG I hr r2 ru2 z2
     exact ⟨_,.cons q1 q2⟩
end
noncomputable def zke (x y:D):M D:=fun h=>match pdH h x,pdH h y with
 | some a,some b=>if zew a b=true then .ok (.bl (PyData.eqv a b)) h else .bad
 | _,_=> .bad
theorem ziJ (hu:X.A.units+60<cLine):OpR X (compareOp .Eq) (zcT X.K E zke):=by
 intro pins s σ H x y v u Q I rx ry ⟨ι,h,d1,d2,r1,r2,hr,q⟩
 unfold zke at q
 cases e1:pdH h d1 with
 | none=>rw [e1] at q;exact False.elim q
 | some a=>
  cases e2:pdH h d2 with
  | none=>rw [e1,e2] at q;exact False.elim q
  | some b=>
   rw [e1,e2] at q
   dsimp only at q
   by_cases c:zew a b=true
   ·rw [if_pos c] at q
    obtain ⟨c1,c2,c3⟩:=zek c
    obtain ⟨as,ra⟩:=zhy I hr r1 rx e1
    obtain ⟨bs,rb⟩:=zhy I hr r2 ry e2
    exact SeqAt.compareEq_reads ra rb c1 c2 (by omega) ⟨.bl _,H,I,rfl,q ι H (zbu.refl _ _) hr (.bl _) (by simp [Rel])⟩
   ·rw [if_neg c] at q
    exact False.elim q
end
noncomputable abbrev FE:=Sd->M D
noncomputable abbrev FT:=Sd->M Bool
noncomputable abbrev FA:=Sd->M (List D)
noncomputable abbrev FS:=Sd->M Out
noncomputable def cOp (F:D->D->M D) (a b:FE):FE:=fun sd=>do let x<-a sd;let y<-b sd;F x y
noncomputable def cUn (F:D->M D) (a:FE):FE:=fun sd=>do let x<-a sd;F x
noncomputable def zaC (F:List D->M D) (a:FA):FE:=fun sd=>do let ds<-a sd;F ds
noncomputable def zcQ (F:D->D->M D) (a b:FE):FT:=fun sd=>do let z<-(do let x<-a sd;let y<-b sd;F x y);zc0 z
noncomputable def zki (a:FE):FT:=fun sd=>do let x<-a sd;zc0 x
noncomputable def zkj (t:FT):FT:=fun sd=>do let c<-t sd;pure (!c)
noncomputable def zvn (t u:FT):FT:=fun sd=>do let c<-t sd;if c=true then u sd else pure false
noncomputable def tOr (t u:FT):FT:=fun sd=>do let c<-t sd;if c=true then pure true else u sd
noncomputable def zrq (a b:FE):FE:=fun sd=>do let c<-(do let x<-a sd;zc0 x);if c=true then b sd else pure (.bl false)
noncomputable def cOr (a b:FE):FE:=fun sd=>do let c<-(do let x<-a sd;zc0 x);if c=true then pure (.bl true) else b sd
noncomputable def zty (a:FE):FE:=fun sd=>do let c<-(do let x<-a sd;zc0 x);pure (.bl (!c))
noncomputable def cIf (t:FT) (a b:FE):FE:=fun sd=>do let c<-t sd;if c=true then a sd else b sd
noncomputable def cK (d:D):FE:=fun _=>pure d
noncomputable def zar:FA:=fun _=>pure []
noncomputable def zac (a:FE) (r:FA):FA:=fun sd=>do let x<-a sd;let r<-r sd;pure (x::r)
noncomputable def ze9 (fs:FA):FE:=fun sd=>do let ds<-fs sd;fits ds.length;pure (.tup ds)
noncomputable def zin (fs:FA):FE:=fun sd=>do let ds<-fs sd;fits ds.length;pure (.lst ds)
noncomputable def zhR (fs:FA):FE:=fun sd=>do let ds<-fs sd;fits ds.length;za2 ds
noncomputable def zfw:FS:=fun sd=>pure (.nx sd)
noncomputable def zao (g g':FS):FS:=fun sd=>do let o<-g sd;andThen o g'
noncomputable def zbx (i:Nat) (f:FE):FS:=fun sd=>do let d<-f sd;pure (.nx (sd.set i (some d)))
noncomputable def zco (f:FE):FS:=fun sd=>do let d<-f sd;pure (.rt d)
noncomputable def sIf (t:FT) (g g':FS):FS:=fun sd=>do let c<-t sd;if c=true then g sd else g' sd
noncomputable def zih (fi:FA) (g:D->Sd->M Sd) (gb:FS):FS:=fun sd=>do let ds<-fi sd;zaS (fun x sd=>do let sd1<-g x sd;gb sd1) ds sd
noncomputable def zq0 (f:FE) (g:D->Sd->M Sd):FS:=fun sd=>do let d<-f sd;let sd'<-g d sd;pure (.nx sd')
noncomputable def zdl (f:FE):FS:=fun sd=>do let _<-f sd;pure (.nx sd)
noncomputable def iSq (f:FE):FA:=fun sd=>do let d<-f sd;ze4 d
noncomputable def zed (fs:FA):FA:=fun sd=>do let ds<-fs sd;zju ds
noncomputable def zpC (fo fi:FE):D->Sd->M Sd:=fun d sd=>do let x<-fo sd;let y<-fi sd;zkN x y d;pure sd
section
variable {X:Cx} {E:XE} {a b e c:Expr} {es:List Expr} {pos p p1 p2:Pos} {fa fb f:FE} {fs:FA} {x:Str}
theorem zab (i:Nat) (hN:X.N[i]? = some x:=by rfl) (hv:Vis X.env.scope x:=by first | exact Or.inl rfl | exact Or.inr (Or.inl rfl) | exact Or.inr (Or.inr rfl)) (hd:(x==("__debug__":Str))=false:=by decide) (hcd:(x==("__classdict__":Str))=false:=by decide):SE X E (.Name x pos) (zag i):=zr4 i hN hv hd hcd
theorem zai {i:Int} {j:Nat}:SE X E (.Constant (.int i) j pos) (cK (.int i)):=zrL
theorem zmb {i:Bool} {j:Nat}:SE X E (.Constant (.bool i) j pos) (cK (.bl i)):=zuG
theorem zjX {j:Nat}:SE X E (.Constant .none j pos) (cK .non):=zrG
theorem zfi {i:Str} {j:Nat}:SE X E (.Constant (.str i) j pos) (cK (.str i)):=zsA
theorem zb7 {op:Operator} {F:D->D->M D} (ho:OpR X (binaryOp op) (zcT X.K E F)) (ha:SE X E a fa) (hb:SE X E b fb):SE X E (.BinOp a op b pos) (cOp F fa fb):=zuC ho ha hb
theorem zlH {op:CmpOp} {F:D->D->M D} (ho:OpR X (compareOp op) (zcT X.K E F)) (ha:SE X E a fa) (hb:SE X E b fb) (hm:behindInMarks op b=false:=by rfl):SE X E (.Compare a [op] [b] pos) (cOp F fa fb):=zru ho ha hb hm
theorem zaH {op:CmpOp} {F:D->D->M D} (ho:OpR X (compareOp op) (zcT X.K E F)) (ha:SE X E a fa) (hb:SE X E b fb) (hm:behindInMarks op b=false:=by rfl):ST X E (.Compare a [op] [b] pos) (zcQ F fa fb):=ztf ho ha hb hm
theorem zbv (ha:SE X E a fa) (hb:SE X E b fb) (hs:zhY b:=by intro _ _;rfl):SE X E (.Subscript a b pos) (cOp dIx fa fb):=ztI zvI ha hb hs
theorem zpm (ha:SE X E a fa):SE X E (.UnaryOp .USub a pos) (cUn zol fa):=zq4 ha
theorem zrP (ha:SE X E a fa):SE X E (.UnaryOp .Not a pos) (zty fa):=zrl ha
theorem zpy {op:BoolOp} (h:SE X E a fa):SE X E (.BoolOp op [a] pos) fa:=zsS h
theorem zp5 {rest:List Expr} (ha:SE X E a fa) (hb:SE X E (.BoolOp .And (b::rest) pos) fb):SE X E (.BoolOp .And (a::b::rest) pos) (zrq fa fb):=zsM ha hb
theorem zc8 (h:SE X E e f) (he: ∀ whole,isTrue e X.env whole=(do let v<-whole;standAt e.pos;holding [v] (truthy v)):=by intro _;rfl):ST X E e (zki f):=zsD h he
theorem zea {t:FT} (ha:ST X E a t):ST X E (.UnaryOp .Not a pos) (zkj t):=zsK ha
theorem zgP {t:FT} (ha:ST X E a t):PW X (.BoolOp .Or [a] pos) (zia X.K E t):=zsG ha
theorem zhJ {rest:List Expr} {t u:FT} (ha:ST X E a t) (hb:PW X (.BoolOp .Or (b::rest) pos) (zia X.K E u)):PW X (.BoolOp .Or (a::b::rest) pos) (zia X.K E (tOr t u)):=zvl ha hb
theorem zfg {op:BoolOp} {vs:List Expr} {t:FT} (h:PW X (.BoolOp op vs pos) (zia X.K E t)):ST X E (.BoolOp op vs pos) t:=zpR h
theorem zu9 {t:FT} (hc:ST X E c t) (ha:SE X E a fa) (hb:SE X E b fb):SE X E (.IfExp c a b pos) (cIf t fa fb):=znu hc ha hb
theorem zkQ {env:Env} (h: ∀ v p,e≠ .Starred v p):starEach (e::es) env=(false,eval e env)::starEach es env:=by
 cases e<;>first | rfl | exact absurd rfl (h _ _)
theorem zad:SA X E [] zar:=zss
theorem zaa (ha:SE X E e fa) (hr:SA X E es fs) (hs:starEach (e::es) X.env=(false,eval e X.env)::starEach es X.env:=by exact zkQ (fun _ _ z=>nomatch z)):SA X E (e::es) (zac fa fs):=zp6 ha hr hs
theorem zcl {k} (h:SA X E es fs):SE X E (.Tuple es k pos) (ze9 fs):=ztg h
theorem zeN (h:SA X E es fs):SE X E (.List es pos) (zin fs):=zrW h
theorem zgS (h:SA X E es fs):SE X E (.List es pos) (zhR fs):=zpe h
theorem zaA {id:String} {F:List D->M D} (hc:zay X (.builtin id) (zhD X.K E F)) (hv:bootBuiltins x=some (.builtin id)) (hm:X.mg x=none) (ha:SA X E (e::es) fs) (hg:Gl X x:=by rfl) (hn:x≠"__name__":=by decide) (hdb:(x==("__debug__":Str))=false:=by decide)
  (he:starEach (e::es) X.env=(false,eval e X.env)::starEach es X.env:=by rfl) (hpl:(backTo pos (starEach es X.env)).any (·.1)=false:=by rfl):SE X E (.Call (.Name x p) (e::es) [] pos) (zaC F fs):=zm8 hc hg hm hv ha hn hdb he hpl
theorem zdD {T:String} {F:List D->M D} (hc:zay X (.type T) (zhD X.K E F)) (hv:bootBuiltins x=some (.type T)) (hm:X.mg x=none) (ha:SA X E (e::es) fs) (hg:Gl X x:=by rfl) (hn:x≠"__name__":=by decide) (hdb:(x==("__debug__":Str))=false:=by decide)
  (he:starEach (e::es) X.env=(false,eval e X.env)::starEach es X.env:=by rfl) (hpl:(backTo pos (starEach es X.env)).any (·.1)=false:=by rfl):SE X E (.Call (.Name x p) (e::es) [] pos) (zaC F fs):=zmm hc hg hm hv ha hn hdb he hpl
theorem zhI {T:String} (hk:zhP T) (hvT:bootBuiltins x=some (.type T)) (hm:X.mg "isinstance"=none) (hmT:X.mg x=none) (ha:SE X E a fa) (hg:Gl X "isinstance":=by rfl) (hgT:Gl X x:=by rfl)
  (hn:x≠"__name__":=by decide) (hd:(x==("__debug__":Str))=false:=by decide)
  (h1:starEach [a,.Name x p2] X.env=(false,eval a X.env)::starEach [.Name x p2] X.env:=by rfl) (h2:starEach [.Name x p2] X.env=[(false,eval (.Name x p2) X.env)]:=by rfl)
  (hpl:(backTo pos (starEach [.Name x p2] X.env)).any (·.1)=false:=by rfl):SE X E (.Call (.Name "isinstance" p1) [a,.Name x p2] [] pos) (cUn (zhE T) fa):=ztb hk hg hm hgT hmT hvT ha hn hd h1 h2 hpl
theorem zkz {pos2:Pos} (hc:X.calm=true) (hm1:X.mg "sorted"=none) (hm2:X.mg "set"=none) (he:SE X E e f) (hg1:Gl X "sorted":=by rfl) (hg2:Gl X "set":=by rfl)
  (h1:starEach [.Call (.Name "set" p2) [e] [] pos2] X.env=[(false,eval (.Call (.Name "set" p2) [e] [] pos2) X.env)]:=by rfl) (h2:starEach [e] X.env=[(false,eval e X.env)]:=by rfl):
  SE X E (.Call (.Name "sorted" p1) [.Call (.Name "set" p2) [e] [] pos2] [] pos) (cUn zdF f):=zjP hc hg1 hm1 hg2 hm2 he h1 h2
theorem zaI {k:Nat} {g:Addr} {fd:FuncData} {ps:List Str} {n:Nat} {F:List D->M D} (G:zbG X.prog X.w X.K X.mg X.base CX0 k g fd ps (zcn X.K n F)) (hr:zda k X.A) (hm:X.mg x=some (.ref g)) (hk:W.keepIn X.K (.ref g)=true) (hb:zaF X.K fd ps [])
  (ha:SA X E0x (e::es) fs) (hg:Gl X x:=by rfl) (hdb:(x==("__debug__":Str))=false:=by decide) (he:starEach (e::es) X.env=(false,eval e X.env)::starEach es X.env:=by rfl) (hpl:(backTo pos (starEach es X.env)).any (·.1)=false:=by rfl):
  SE X E0x (.Call (.Name x p) (e::es) [] pos) (zaC (zat n F) fs):=zpw G hr hg hm hk hb ha hdb he hpl
theorem zbJ:SSs X E [] zfw:=zrw
theorem zak {st:Stmt} {g:FS} (h1:SS X E st g):SSs X E [st] g:=zsQ h1
theorem zaf {st:Stmt} {rest:List Stmt} {g g':FS} (h1:SS X E st g) (h2:SSs X E rest g'):SSs X E (st::rest) (zao g g'):=zpF h1 h2
theorem zaZ (he:SE X E e f):SS X E (.Return (some e) pos) (zco f):=zui he
theorem zgD {ys ns:List Stmt} {t:FT} {g g':FS} (hc:ST X E c t) (ha:SSs X E ys g) (hb:SSs X E ns g'):SS X E (.If c ys ns pos) (sIf t g g'):=zvP hc ha hb
theorem zcD (he:SE X E e f) (hs:swapsWith e none pos.line X.env=pure false:=by rfl):SS X E (.Expr e pos) (zdl f):=zsH he hs
theorem zaM (i:Nat) (hN:X.N.Nodup) (he:SE X E e f) (hi:X.N[i]? = some x:=by rfl) (hx:Loc X.env.scope x:=by first | exact Or.inl rfl | exact Or.inr rfl) (hf:X.fn x=true\/X.env.scope.names.lookup x=some .local:=by first | exact Or.inl rfl | exact Or.inr rfl)
  (hs:swapsWith e (some (.Name x p)) pos.line X.env=pure false:=by rfl):SS X E (.Assign [.Name x p] e pos) (zbx i f):=zu4 i hN hi hx hf he hs
theorem znj {tg:Expr} {g:D->Sd->M Sd} (he:SE X E e f) (hg:SG X E tg g) (hs:swapsWithSole [tg] e pos.line X.env=pure false:=by rfl) (hw:swappedStores [tg] e X.env=pure none:=by rfl)
  (h1:(assignEach [tg] X.env).map (·.2)=[assign tg X.env]:=by rfl):SS X E (.Assign [tg] e pos) (zq0 f g):=ztS he hg hs hw h1
theorem zan (i:Nat) (hN:X.N.Nodup) (hi:X.N[i]? = some x:=by rfl) (hx:Loc X.env.scope x:=by first | exact Or.inl rfl | exact Or.inr rfl) (hf:X.fn x=true\/X.env.scope.names.lookup x=some .local:=by first | exact Or.inl rfl | exact Or.inr rfl):SG X E (.Name x pos) (zaB i):=zqo i hN hi hx hf
theorem zfl:SGs X E [] zef:=zpJ
theorem zbH {g:D->Sd->M Sd} {gs:List D->Sd->M Sd} (h1:SG X E e g) (h2:SGs X E es gs) (hs:(assignEach (e::es) X.env).map (·.2)=assign e X.env::(assignEach es X.env).map (·.2):=by rfl):SGs X E (e::es) (zbi g gs):=znt h1 h2 hs
theorem zgT {k n:Nat} {gs:List D->Sd->M Sd} (hc:X.calm=true) (h:SGs X E es gs) (hn:(assignEach es X.env).length=n:=by rfl) (hst:(assignEach es X.env).findIdx? (·.1)=none:=by rfl):SG X E (.Tuple es k pos) (zee n gs):=zq7 hc h hn hst
theorem zr3 (ho:SE X E a fa) (hi:SE X E b fb) (ha: ∀ v,assign (.Subscript a b pos) X.env v=(do
      let ov<-holding [v] (eval a X.env)
      let iv<-holding [v,ov] (eval b X.env)
      standAt pos
      holding [v,ov,iv] (setItem ov iv v)
      release [v,ov,iv] []):=by intro _;rfl):SG X E (.Subscript a b pos) (zpC fa fb):=zrX fun hs=>zoU ho hi hs ha
theorem zcs {tg:Expr} (he:SE X E e f):SI X E tg e (iSq f):=ztx he
theorem zdm {tg:Expr} (hm:X.mg "range"=none) (ha:SA X E [a] fs) (hg:Gl X "range":=by rfl) (hs:starEach [a] X.env=[(false,eval a X.env)]:=by rfl):SI X E tg (.Call (.Name "range" p) [a] [] pos) (zed fs):=zo2 hg hm ha hs
theorem zeg {tg iter:Expr} {body:List Stmt} {fi:FA} {g:D->Sd->M Sd} {gb:FS} (hc:X.calm=true) (hp:PassesOwn (model X.prog X.w) X.A X.env X.xe) (hi:SI X E tg iter fi) (hg:SG X E tg g) (hb:SSs X E body gb)
  (hs: ∀ x,foldedSetIterable iter X.env x=pure x:=by intro _;rfl):SS X E (.For tg iter body [] pos) (zih fi g gb):=zuF hc hp hi hg hb hs
theorem zeS:SCs X E [] (fun _=>pure true):=zsW
theorem zbL {t:FT} (h:ST X E c t):SCs X E [c] t:=zsT h
theorem zb1 {scope:Scope} {N:List Str} {src:List (Option Nat)} {tg iter elt:Expr} {ifs:List Expr} {fi:FA} {g:D->Sd->M Sd} {tc:FT} {te:FE} (hc:X.calm=true) (B:BOk X scope N src) (hk:zax g src) (hi:SI X E tg iter fi)
  (hg: ∀ s H fp,SG (cxB X scope N s H fp) E tg g) (ht: ∀ s H fp,SCs (cxB X scope N s H fp) E ifs tc) (he: ∀ s H fp,SE (cxB X scope N s H fp) E elt te)
  (hs: ∀ x,foldedSetIterable iter X.env x=pure x:=by intro _;rfl):SE X E (.ListComp elt [⟨tg,iter,ifs,0⟩] scope pos) (zav fi g tc te src):=zpg B hk hi hg ht he hs
theorem zbR {scope:Scope} {N:List Str} {src:List (Option Nat)} {tg iter elt:Expr} {ifs:List Expr} {fi:FA} {g:D->Sd->M Sd} {tc:FT} {te:FE} (i:Nat) {y:Str} {py spos:Pos} (hc:X.calm=true) (hN:X.N.Nodup) (B:BOk X scope N src) (hk:zax g src) (hi:SI X E tg iter fi)
  (hg: ∀ s H fp,SG (cxB X scope N s H fp) E tg g) (ht: ∀ s H fp,SCs (cxB X scope N s H fp) E ifs tc) (he: ∀ s H fp,SE (cxB X scope N s H fp) E elt te)
  (hy:X.N[i]? = some y:=by rfl) (hx:Loc X.env.scope y:=by first | exact Or.inl rfl | exact Or.inr rfl) (hf:X.fn y=true\/X.env.scope.names.lookup y=some .local:=by first | exact Or.inl rfl | exact Or.inr rfl) (hsw:swapsWith (.ListComp elt [⟨tg,iter,ifs,0⟩] scope pos) (some (.Name y py)) spos.line X.env=pure true:=by rfl)
  (hs: ∀ x,foldedSetIterable iter X.env x=pure x:=by intro _;rfl):SS X E (.Assign [.Name y py] (.ListComp elt [⟨tg,iter,ifs,0⟩] scope pos) spos) (zbx i (zav fi g tc te src)):=zkB i B hk hi hg ht he hN hy hx hf hsw hs
end
theorem za1.empty {K:W.Frag} {H:Hp}:za1 K ⟨[],[]⟩ H []:=⟨rfl,fun m n a h=>by simp at h,fun n a c h=>by simp at h,fun n h=>by simp at h,fun a h=>by cases h⟩
theorem ztR {K:W.Frag} {F:List D->M D} {H:Hp} {a:Addr} {ns:List Int} (hS:SqL K H a (ns.map V.int)) (hm: ∃ h',F [.scr (ns.map D.int)] []= .ok (.bl true) h'):zcn K 1 F [.ref a] H (fun v _=>v= .bl true) fun _ _ _=>False:=by
 obtain ⟨h',e⟩:=hm
 refine ⟨rfl,⟨[],[]⟩,[],[.scr (ns.map D.int)],zal.cons ?_ zal.nil,za1.empty,?_⟩
 ·simp only [Rel]
  refine ⟨a,ns.map V.int,rfl,?_,zcM.mpr rfl⟩
  rcases hS with h | h
  ·exact .inl ⟨h,fun z=>by rcases z with z | z<;>cases z⟩
  ·exact .inr (.inr h)
 ·rw [e]
  intro ι1 H1 s hr v rv
  simpa [Rel] using rv
section
variable {sd:Sd} {a b:FE} {fs:FA} {t u:FT} {g g':FS} {F:D->D->M D}
@[simp] theorem zdH:cOp F a b sd=(do let x<-a sd;let y<-b sd;F x y):=rfl
@[simp] theorem zmP {F:D->M D}:cUn F a sd=(do let x<-a sd;F x):=rfl
@[simp] theorem zbl {F:List D->M D}:zaC F fs sd=(do let ds<-fs sd;F ds):=rfl
@[simp] theorem zfR:zcQ F a b sd=(do let z<-(do let x<-a sd;let y<-b sd;F x y);zc0 z):=rfl
@[simp] theorem ziV:zki a sd=(do let x<-a sd;zc0 x):=rfl
@[simp] theorem ziw:zkj t sd=(do let c<-t sd;pure (!c)):=rfl
@[simp] theorem zsX:zvn t u sd=(do let c<-t sd;if c=true then u sd else pure false):=rfl
@[simp] theorem zo8:tOr t u sd=(do let c<-t sd;if c=true then pure true else u sd):=rfl
@[simp] theorem zkZ:zrq a b sd=(do let c<-(do let x<-a sd;zc0 x);if c=true then b sd else pure (.bl false)):=rfl
@[simp] theorem zun:cOr a b sd=(do let c<-(do let x<-a sd;zc0 x);if c=true then pure (.bl true) else b sd):=rfl
@[simp] theorem zls:zty a sd=(do let c<-(do let x<-a sd;zc0 x);pure (.bl (!c))):=rfl
@[simp] theorem ztT:cIf t a b sd=(do let c<-t sd;if c=true then a sd else b sd):=rfl
@[simp] theorem zgA {d:D}:cK d sd=pure d:=rfl
@[simp] theorem za8:zar sd=pure []:=rfl
@[simp] theorem zaJ:zac a fs sd=(do let x<-a sd;let r<-fs sd;pure (x::r)):=rfl
@[simp] theorem zlu:ze9 fs sd=(do let ds<-fs sd;fits ds.length;pure (.tup ds)):=rfl
@[simp] theorem ziX:zin fs sd=(do let ds<-fs sd;fits ds.length;pure (.lst ds)):=rfl
@[simp] theorem zgk:zhR fs sd=(do let ds<-fs sd;fits ds.length;za2 ds):=rfl
@[simp] theorem zeG:zfw sd=pure (.nx sd):=rfl
@[simp] theorem zaY:zao g g' sd=(do let o<-g sd;andThen o g'):=rfl
@[simp] theorem zb6 {i:Nat}:zbx i a sd=(do let d<-a sd;pure (.nx (sd.set i (some d)))):=rfl
@[simp] theorem zck:zco a sd=(do let d<-a sd;pure (.rt d)):=rfl
@[simp] theorem zgX:sIf t g g' sd=(do let c<-t sd;if c=true then g sd else g' sd):=rfl
@[simp] theorem zg5 {fi:FA} {gt:D->Sd->M Sd}:zih fi gt g sd=(do let ds<-fi sd;zaS (fun x sd=>do let sd1<-gt x sd;g sd1) ds sd):=rfl
@[simp] theorem zoZ {gt:D->Sd->M Sd}:zq0 a gt sd=(do let d<-a sd;let sd'<-gt d sd;pure (.nx sd')):=rfl
@[simp] theorem zie:zdl a sd=(do let _<-a sd;pure (.nx sd)):=rfl
@[simp] theorem zsh:iSq a sd=(do let d<-a sd;ze4 d):=rfl
@[simp] theorem zhw:zed fs sd=(do let ds<-fs sd;zju ds):=rfl
@[simp] theorem zpH {d:D}:zpC a b d sd=(do let x<-a sd;let y<-b sd;zkN x y d;pure sd):=rfl
@[simp] theorem zcE {i:Nat} {d:D}:zaB i d sd=pure (sd.set i (some d)):=rfl
@[simp] theorem zg0:andThen (.nx sd) g=g sd:=rfl
@[simp] theorem zu5 {d:D}:andThen (.rt d) g=pure (.rt d):=rfl
@[simp] theorem zv7:andThen (.bk sd) g=pure (.bk sd):=rfl
@[simp] theorem zv8:andThen (.ct sd) g=pure (.ct sd):=rfl
@[simp] theorem zup:zcV (.nx sd)=pure .non:=rfl
@[simp] theorem zhe {d:D}:zcV (.rt d)=pure d:=rfl
@[simp] theorem zde {c:Bool}:zc0 (.bl c)=pure c:=rfl
@[simp] theorem zuh {lo hi:Sd->M (Option Int)}:cSl a lo hi sd=(do let d<-a sd;let l<-lo sd;let u<-hi sd;dSl d l u):=rfl
@[simp] theorem zp0:zjH sd=pure none:=rfl
@[simp] theorem zp1:zjO a sd=(do let d<-a sd;zpq d):=rfl
@[simp] theorem ztp {i:Int}:zpq (.int i)=pure (some i):=rfl
@[simp] theorem zuH {ds:List D} {lo hi:Option Int}:dSl (.tup ds) lo hi=pure (.tup (zkf ds lo hi)):=rfl
@[simp] theorem ztJ {ds:List D}:zvO (.tup ds)=pure (.tup ds.reverse):=rfl
@[simp] theorem zuT {i:Int}:zol (.int i)=pure (.int (-i)):=rfl
@[simp] theorem zfh {i j:Int}:zdZ (.int i) (.int j)=pure (.int (i+j)):=rfl
@[simp] theorem zsp {xs ys:List D}:zdZ (.tup xs) (.tup ys)=(do fits (xs.length+ys.length);pure (.tup (xs++ys))):=rfl
@[simp] theorem zoB {xs ys:List D}:zdZ (.lst xs) (.lst ys)=(do fits (xs.length+ys.length);pure (.lst (xs++ys))):=rfl
@[simp] theorem zuJ {i j:Int}:zoK (.int i) (.int j)=pure (.int (i - j)):=rfl
@[simp] theorem zvJ {i j:Int}:zvz (.int i) (.int j)=pure (.int (Builtin.bitAnd i j)):=rfl
@[simp] theorem zr9 {i j:Int}:dLt (.int i) (.int j)=pure (.bl (decide (i<j))):=rfl
@[simp] theorem zvB {i j:Int}:dLe (.int i) (.int j)=pure (.bl (decide (i<=j))):=rfl
@[simp] theorem zvM {i j:Int}:dGt (.int i) (.int j)=pure (.bl (decide (j<i))):=rfl
@[simp] theorem zuA {i j:Int}:dGe (.int i) (.int j)=pure (.bl (decide (j<=i))):=rfl
@[simp] theorem zub {i j:Bool}:ztk (.bl i) (.bl j)=pure (.bl (i != j)):=rfl
@[simp] theorem zsz {ds:List D}:zeL [.tup ds]=pure (.int ds.length):=rfl
@[simp] theorem zsq {ds:List D}:zeL [.lst ds]=pure (.int ds.length):=rfl
@[simp] theorem zoP {ds:List D}:zeL [.scr ds]=pure (.int ds.length):=rfl
@[simp] theorem zr1 {ds:List D}:zc5 [.tup ds]=pure (.tup ds):=rfl
@[simp] theorem zoD {ds:List D}:zc5 [.lst ds]=pure (.tup ds):=rfl
@[simp] theorem zto {ds:List D}:zt0 [.tup ds]=pure (.lst ds):=rfl
@[simp] theorem zsU {ds:List D}:ze4 (.tup ds)=pure ds:=rfl
@[simp] theorem zu3 {ds:List D}:ze4 (.lst ds)=pure ds:=rfl
@[simp] theorem zis {F:List D->M D} {x:D}:zat 1 F [x]=F [x]:=rfl
@[simp] theorem zbV {F:List D->M D} {x y:D}:zat 2 F [x,y]=F [x,y]:=rfl
@[simp] theorem zlS {F:List D->M D} {x y z:D}:zat 3 F [x,y,z]=F [x,y,z]:=rfl
@[simp] theorem zb4 {body:D->Sd->M Out}:zaS body [] sd=pure (.nx sd):=rfl
theorem zbC {body:D->Sd->M Out} {x:D} {r:List D}:zaS body (x::r) sd=(do let o<-body x sd;match o with | .nx sd'=>zaS body r sd' | .ct sd'=>zaS body r sd' | .bk sd'=>pure (.nx sd') | .rt d=>pure (.rt d)):=rfl
@[simp] theorem zkm {gs:List D->Sd->M Sd} {x y:D}:zee 2 gs (.tup [x,y]) sd=gs [x,y] sd:=rfl
@[simp] theorem zl8:zef [] sd=pure sd:=rfl
@[simp] theorem zjl {gt:D->Sd->M Sd} {gs:List D->Sd->M Sd} {x:D} {r:List D}:zbi gt gs (x::r) sd=(do let sd1<-gt x sd;gs r sd1):=rfl
@[simp] theorem zrb {n:Nat} {k:Int} {d:D}:zkN (.cel n) (.int k) d=(do let ds<-zaj n;let j<-ofO (ixN ds.length k);zby n (ds.set j d)):=rfl
@[simp] theorem zt6 {ds:List D} {i:Int}:dIx (.tup ds) (.int i)=ofO (atI ds i):=rfl
@[simp] theorem zsu {ds:List D} {i:Int}:dIx (.lst ds) (.int i)=ofO (atI ds i):=rfl
@[simp] theorem zuq {ds:List D} {i:Int}:dIx (.scr ds) (.int i)=ofO (atI ds i):=rfl
@[simp] theorem zuY {n:Nat} {i:Int}:dIx (.cel n) (.int i)=(do let ds<-zaj n;ofO (atI ds i)):=rfl
@[simp] theorem zkI {α:Type} {x:α}:ofO (some x)=pure x:=rfl
@[simp] theorem zrh {x:D} {r:List D}:atI (x::r) 0=some x:=by unfold atI ixN;simp
@[simp] theorem ztZ {x y:D} {r:List D}:atI (x::y::r) 1=some y:=by
 have:=zgr (xs:=x::y::r) (j:=1) (v:=y) rfl
 simpa using this
end
theorem zaz {n:Nat} (h:n<=1000):fits n=pure ():=by
 unfold fits
 rw [if_pos (qaE h (by decide))]
theorem zi4 {i j:Int} (h:(za0 i || za0 j)=true):zqG (.int i) (.int j)=pure (.int (i*j)):=by
 show (if (za0 i || za0 j)=true then _ else _)=_
 rw [if_pos h]
theorem zel {i:Int} (h: -1000000000000000<i) (h':i<1000000000000000):za0 i=true:=by unfold za0;simp;omega
theorem zsd {i j:Int} (h: -1000000000000000<i) (h':i<1000000000000000):zqG (.int i) (.int j)=pure (.int (i*j)):=zi4 (by rw [zel h h'];rfl)
theorem zrC {i j:Int} (h: -1000000000000000<j) (h':j<1000000000000000):zqG (.int i) (.int j)=pure (.int (i*j)):=zi4 (by rw [zel h h'];simp)
theorem zgs {i j:Int} (h:0<j):zqU (.int i) (.int j)=pure (.int (i % j)):=by
 show (if (decide (0<j))=true then _ else _)=_
 rw [if_pos (by simpa using h)]
theorem znd {i j:Int} (h:0<j) (h':j<2^64):zpl (.int i) (.int j)=pure (.int (i / j)):=by
 show (if (decide (0<j) && decide (j<2^64))=true then _ else _)=_
 rw [if_pos (by rw [Bool.and_eq_true];exact ⟨by simpa using h,by simpa using h'⟩)]
theorem zqV {i j:Int}:dEq (.int i) (.int j)=pure (.bl (i==j)):=by
 unfold dEq znH
 simp only [pd]
 rw [if_pos (show zew (.int i) (.int j)=true from rfl)]
 rfl
noncomputable def wp {α:Type} (m:M α) (h:Hh) (P:α->Hh->Prop):Prop:= ∃ a h',m h= .ok a h'/\P a h'
section
variable {α β:Type} {h:Hh} {P P':α->Hh->Prop}
theorem zam {a:α}:wp (pure a:M α) h P↔P a h:=⟨fun ⟨b,h',e,q⟩=>by cases (show R.ok a h=R.ok b h' from e);exact q,fun q=>⟨a,h,rfl,q⟩⟩
theorem zaq {m:M β} {f:β->M α}:wp (m>>=f) h P↔wp m h fun b h'=>wp (f b) h' P:=by
 constructor
 ·rintro ⟨a,h',e,q⟩
  have e:M.bind m f h= .ok a h':=e
  unfold M.bind at e
  cases z:m h with
  | ok b h1=>rw [z] at e;exact ⟨b,h1,z,a,h',e,q⟩
  | exc c h1=>rw [z] at e;cases e
  | bad=>rw [z] at e;cases e
 ·rintro ⟨b,h1,e,a,h',e2,q⟩
  refine ⟨a,h',?_,q⟩
  show M.bind m f h=_
  unfold M.bind
  rw [e]
  exact e2
theorem zhF {m:M α} (q:wp m h P) (k: ∀ a h',P a h'->P' a h'):wp m h P':=by
 obtain ⟨a,h',e,q⟩:=q
 exact ⟨a,h',e,k _ _ q⟩
theorem zcL {n:Nat} {ds:List D} {P:List D->Hh->Prop} (e:h[n]? = some (.lst ds)):wp (zaj n) h P↔P ds h:=by
 unfold wp zaj
 rw [e]
 exact ⟨fun ⟨b,h',e,q⟩=>by cases e;exact q,fun q=>⟨_,_,rfl,q⟩⟩
theorem zfM {n:Nat} {ds:List D} {P:Unit->Hh->Prop}:wp (zby n ds) h P↔P () (h.set n (.lst ds)):=⟨fun ⟨b,h',e,q⟩=>by cases (show R.ok () (h.set n (.lst ds))=R.ok b h' from e);exact q,fun q=>⟨_,_,rfl,q⟩⟩
theorem zeW {ds:List D} {P:D->Hh->Prop}:wp (za2 ds) h P↔P (.cel h.length) (h++[.lst ds]):=⟨fun ⟨b,h',e,q⟩=>by cases (show R.ok (D.cel h.length) (h++[C.lst ds])=R.ok b h' from e);exact q,fun q=>⟨_,_,rfl,q⟩⟩
end
theorem zfF {f:D->M (Option D)} {k:D->Option D}: ∀ {ds:List D},(∀ x∈ds,f x=pure (k x))->zbt f ds=pure (ds.filterMap k)
 | [],_=>rfl
 | x::r,hf=>by
  rw [zbt,hf x qan,zfF fun y hy=>hf y (qaj _ hy)]
  simp only [pure_bind]
  cases e:k x<;>simp [List.filterMap_cons,e]
theorem zj3 {fi:FA} {g:D->Sd->M Sd} {tc:FT} {te:FE} {src:List (Option Nat)} {sd:Sd} {ds:List D} {k:D->Option D} (hi:fi sd=pure ds) (hl:ds.length<=1000) (hf: ∀ x∈ds,zaT g tc te (zah src sd) x=pure (k x)):zav fi g tc te src sd=pure (.lst (ds.filterMap k)):=by
 unfold zav
 rw [hi]
 simp only [pure_bind]
 rw [zaz hl]
 simp only [pure_bind]
 rw [zfF hf]
 simp only [pure_bind]
theorem zlB {fi:FA} {g:D->Sd->M Sd} {tc:FT} {te:FE} {src:List (Option Nat)} {sd:Sd} {ds:List D} {k:D->D} (hi:fi sd=pure ds) (hl:ds.length<=1000) (hf: ∀ x∈ds,zaT g tc te (zah src sd) x=pure (some (k x))):zav fi g tc te src sd=pure (.lst (ds.map k)):=by
 rw [zj3 (k:=fun x=>some (k x)) hi hl hf]
 simp
theorem zf4: ∀ bs:List Bool,zlx (bs.map D.bl)=some bs
 | []=>rfl
 | b::r=>by rw [qaz,zlx,zf4 r];rfl
theorem zdy: ∀ bs:List Int,zc1 (bs.map D.int)=some bs
 | []=>rfl
 | b::r=>by rw [qaz,zc1,zdy r];rfl
theorem zp2 (bs:List Bool):zuD [.lst (bs.map D.bl)]=pure (.bl (bs.all id)):=by
 show (do let bs<-ofO (zlx (bs.map D.bl));pure (.bl (bs.all id)):M D)=_
 rw [zf4]
 rfl
noncomputable def kn:D->Bool
 | .non | .bl _ | .int _ | .str _ | .tup _ | .lst _ | .dct=>true
 | _=>false
noncomputable def isT:D->Bool
 | .tup _=>true
 | _=>false
noncomputable def isI:D->Bool
 | .int _=>true
 | _=>false
theorem ztl {d:D} (k:kn d=true):zhE "tuple" d=pure (.bl (isT d)):=by
 cases d<;>simp [kn] at k<;>simp [zhE,tyD,isB,isT]
theorem zld {d:D} (k:kn d=true):zhE "int" d=pure (.bl (isI d || (match d with | .bl _=>true | _=>false))):=by
 cases d<;>simp [kn] at k<;>simp [zhE,tyD,isB,isI]
theorem zoX {d:D} (k:kn d=true):zhE "bool" d=pure (.bl (match d with | .bl _=>true | _=>false)):=by
 cases d<;>simp [kn] at k<;>simp [zhE,tyD,isB,isI]
mutual
noncomputable def zmw:D->Bool
 | .non | .bl _ | .int _=>true
 | .str x=>PyData.strOk x
 | .tup ds=>decide (ds.length<64) && zh3 ds
 | .lst ds=>decide (ds.length<64) && zh3 ds
 | _=>false
noncomputable def zh3:List D->Bool
 | []=>true
 | d::r=>zmw d && zh3 r
end
mutual
theorem zpI: ∀ {d:D},zmw d=true-> ∃ p,pd d=some p/\p.canLay0=true
 | .non,_=>⟨.none,rfl,rfl⟩
 | .bl b,_=>⟨.bool b,rfl,rfl⟩
 | .int i,_=>⟨.int i,rfl,rfl⟩
 | .str x,g=>⟨.str x,rfl,by simpa [zmw,PyData.canLay0] using g⟩
 | .tup ds,g=>by
  have g2:zh3 ds=true:=by simp [zmw] at g;exact g.2
  obtain ⟨ps,e,c⟩:=zf7 g2
  exact ⟨.tuple ps,by unfold pd;rw [e];rfl,c⟩
 | .lst ds,g=>by
  have g2:zh3 ds=true:=by simp [zmw] at g;exact g.2
  obtain ⟨ps,e,c⟩:=zf7 g2
  exact ⟨.list ps,by unfold pd;rw [e];rfl,c⟩
 | .cel _,g=>by simp [zmw] at g
 | .set _,g=>by simp [zmw] at g
 | .dct,g=>by simp [zmw] at g
 | .fn _,g=>by simp [zmw] at g
 | .scr _,g=>by simp [zmw] at g
 | .exn _,g=>by simp [zmw] at g
theorem zf7: ∀ {ds:List D},zh3 ds=true-> ∃ ps,pdL ds=some ps/\PyData.canLayAll0 ps=true
 | [],_=>⟨[],rfl,rfl⟩
 | d::r,g=>by
  simp [zh3] at g
  obtain ⟨p,e,c⟩:=zpI g.1
  obtain ⟨ps,e2,c2⟩:=zf7 g.2
  exact ⟨p::ps,by unfold pdL;rw [e,e2],by simp [PyData.canLayAll0,c,c2]⟩
end
theorem zbN: ∀ xs:List Int,pdL (xs.map D.int)=some (xs.map PyData.int)
 | []=>rfl
 | x::r=>by rw [qaz,pdL,zbN r];rfl
theorem za3: ∀ xs:List Int,PyData.canLayAll0 (xs.map PyData.int)=true
 | []=>rfl
 | x::r=>by simp [PyData.canLayAll0,PyData.canLay0,za3 r]
theorem zbB: ∀ xs:List Int,PyData.depthAll (xs.map PyData.int)=0
 | []=>rfl
 | x::r=>by simp [PyData.depthAll,PyData.depth,zbB r]
theorem zej: ∀ xs ys:List Int,PyData.eqvAll (xs.map PyData.int) (ys.map PyData.int)=(xs==ys)
 | [],[]=>rfl
 | [],_::_=>rfl
 | _::_,[]=>rfl
 | x::xs,y::ys=>by
  simp only [qaz,PyData.eqvAll,PyData.eqv,zej xs ys]
  rfl
theorem zer (k:Int): ∀ xs:List Int,((xs.map PyData.int).any fun y=>PyData.eqv y (.int k))=xs.any (· == k)
 | []=>rfl
 | x::r=>by simp only [qaz,List.any_cons,zer k r];rfl
theorem zcA (k:Int) (xs:List Int):dIn (.int k) (.tup (xs.map D.int))=pure (.bl (xs.any (· == k))):=by
 show zmH false (.int k) (.tup (xs.map D.int))=_
 unfold zmH
 simp only [pd]
 rw [zbN]
 have c:zmh (.int k) (xs.map PyData.int)=true:=by
  unfold zmh
  simp [PyData.canLay0,za3,PyData.depth,zbB]
 simp only [c,if_true,zer]
 rfl
end L3
namespace L2
open PySem PySem.Spec PyProof.Rows LT
section
variable {X:Cx}
theorem zg3:zay X (.builtin "divmod") (fun xs H Q=> ∃ i j:Int,xs=[.int i,.int j]/\0<j/\j<2^100/\ ∀ p,H p=none->Q (.ref p) (upd H p (.tup [.int (i / j),.int (i % j)]))):=by
 intro pins s σ H xs us Q I r h
 obtain ⟨i,j,rfl,h0,h1,q⟩:=h
 cases r with
 | cons r1 r2=>
  cases r2 with
  | cons r3 r4=>
   cases r4
   obtain ⟨t,rfl⟩:=r1
   obtain ⟨u,rfl⟩:=r3
   refine divmod_int (by omega) ?_ (.inl (PyProof.noPylong_of_log2 ?_))
   ·refine ⟨.ref s.heap.objs.size,_,I.laid (t':=s.toks+1+1) (o:= .tup [.int (i / j),.int (i % j)]) (fun b ob q=>qad _ q) (qaG _) ?_,rfl,q _ (I.hok.fresh (qaG _))⟩
    refine ⟨by show 2<=sizeLine;decide,[.int (i.fdiv j) s.toks,.int (i.fmod j) (s.toks+1)],.cons ⟨s.toks,by rw [Int.fdiv_eq_ediv_of_nonneg _ (by omega)]⟩ (.cons ⟨s.toks+1,by rw [Int.fmod_eq_emod_of_nonneg _ (by omega)]⟩ .nil),IsTup.new _ _⟩
   ·have h1:j.natAbs<2^100:=by omega
    have h0:j.natAbs≠0:=by omega
    exact Nat.lt_trans ((Nat.log2_lt h0).mpr h1) (by decide)
theorem zkL (hc:X.calm=true):zay X (.builtin "any") (fun xs H Q=> ∃ (a:Addr) (bs:List Bool),xs=[.ref a]/\SqL X.K H a (bs.map V.bl)/\Q (.bl (bs.any id)) H):=by
 intro pins s σ H xs us Q I r h
 obtain ⟨a,bs,rfl,hq,q⟩:=h
 obtain ⟨u,rfl,rx⟩:=zdp r
 cases rx
 obtain ⟨its,r',pl,hz⟩:=I.list hq
 have hlt:a<s.heap.objs.size:=by obtain ⟨_,e,_⟩:=pl.isList;exact qaC e
 refine call_any_walk (wpAny_pyIter_list pl.isList ?_)
 refine ⟨s.heap.objs.size,[s.heap.objs.size,a],[s.heap.objs.size],its.toArray.size,_,_,fun i=>(bs[i]?).getD true,rfl,Walks.list (A:=X.A.in1) (I.ok.hd hc) _ a (qaD hlt) its.toArray,⟨⟨_,qal _ rfl,rfl,rfl⟩,pl.isList.push _⟩,fun i v s' Q' E' hP hQ=> ?_,fun h' tk hk=> ?_⟩
 ·have hv:its[i]? = some v:=by simpa using hP
  obtain ⟨hi,_⟩:=qab.mp hv
  have hlen:bs.length=its.length:=by rw [<- r'.length,qax]
  have hb:(bs.map V.bl)[i]? = some (V.bl bs[i]):=by simp [hlen,hi]
  obtain ⟨u',hu,ru⟩:=r'.get hb
  rw [hv] at hu
  cases hu
  cases ru
  have e:(bs[i]?).getD true=bs[i]:=by simp [hlen,hi]
  have hQ:Q' ((bs[i]?).getD true) s':=hQ
  rw [e] at hQ
  exact wpAny_truthy_bool hQ
 ·have e:((List.range its.toArray.size).any fun i=>(bs[i]?).getD true)=bs.any id:=by
   have hlen:bs.length=its.length:=by rw [<- r'.length,qax]
   rw [qar, <-hlen]
   rw [Bool.eq_iff_iff,List.any_eq_true,List.any_eq_true]
   constructor
   ·rintro ⟨i,hi,h⟩
    have hl:i<bs.length:=by simpa using hi
    have e1:bs[i]? = some bs[i]:=by simp [hl]
    rw [e1] at h
    exact ⟨bs[i],List.getElem_mem hl,h⟩
   ·rintro ⟨x,hx,h⟩
    obtain ⟨i,hi⟩:=List.mem_iff_getElem?.mp hx
    have hl:=(qab.mp hi).1
    refine ⟨i,by simpa using hl,?_⟩
    rw [hi]
    exact h
  rw [e]
  refine ⟨.bl _,H,I.grown (s':={s with heap:=h',toks:=tk}) rfl rfl fun b ob eb=>hk b ob (fun z=> ?_) (qad _ eb),rfl,q⟩
  simp only [List.mem_cons,qaw,or_false] at z
  exact qaA _ (z▸qaC eb)
end
end L2
namespace L3
open PySem PySem.Spec PyProof.Rows L2 LT
section
variable {X:Cx} {E:XE} {a b c o e:Expr} {pos apos cpos:Pos} {fa fb fc fo fe:FE}
noncomputable def zeM:List D->M D
 | [.int i,.int j]=>if 0<j/\j<2^100 then pure (.tup [.int (i / j),.int (i % j)]) else M.bad
 | _=>M.bad
theorem zgQ:zay X (.builtin "divmod") (zhD X.K E zeM):=by
 refine zay.imp zg3 fun xs H Q ⟨ι,h,ds,rl,hr,q⟩=> ?_
 unfold zeM at q
 split at q
 ·simp only [zal,Rel] at rl
  obtain ⟨v,r,rfl,rfl,v',r',rfl,rfl,rfl⟩:=rl
  obtain ⟨⟨c1,c2⟩,q⟩:=Fin.guard q
  refine ⟨_,_,rfl,c1,c2,fun p hp=>zqS hr ?_ q hp⟩
  exact zal.cons (by simp [Rel]) (zal.cons (by simp [Rel]) zal.nil)
 ·exact False.elim q
noncomputable def zuS:List D->M D:=zmc fun d=>match d with
 | .lst ds=>do let bs<-ofO (zlx ds);pure (.bl (bs.any id))
 | _=>M.bad
theorem zkR (hc:X.calm=true):zay X (.builtin "any") (zhD X.K E zuS):=by
 refine zay.imp (zkL hc) fun xs H Q ⟨ι,h,ds,rl,hr,q⟩=> ?_
 obtain ⟨d,v,e,r,q⟩:=zb3 rl q
 cases d with
 | lst ds=>
  obtain ⟨a,vs,e',h1,h2⟩:=zc4 r
  obtain ⟨bs,eb,q⟩:=Fin.ofOb q
  have:=zev h2 eb
  subst this
  exact ⟨a,bs,by rw [e,e'],h1,Fin.out hr q _ (by simp [Rel])⟩
 | _=>exact False.elim q
noncomputable def zdb:D->M Unit
 | .cel n=>do let _<-zaj n;pure ()
 | _=>M.bad
noncomputable def zcb (x y:D):M D:=match x with
 | .cel n=>do
  let ds<-zaj n
  fits (ds.length+1)
  zby n (ds++[y])
  pure .non
 | _=>M.bad
noncomputable def zcv (fo fe:FE):FE:=fun sd=>do
 let x<-fo sd
 zdb x
 let y<-fe sd
 zcb x y
theorem zf6 {α:Type} {K:W.Frag} {ι:Io} {H:Hp} {h:Hh} {n:Nat} {f:List D->M α} {P:α->Io->Hp->Prop} (q:Fin K E ι H ((zaj n>>=f) h) P): ∃ ds,h[n]? = some (.lst ds)/\Fin K E ι H (f ds h) P:=by
 have q':Fin K E ι H (M.bind (zaj n) f h) P:=q
 unfold M.bind at q'
 cases z:zaj n h with
 | bad=>rw [z] at q';exact False.elim q'
 | exc c h'=>unfold zaj at z;split at z<;>cases z
 | ok ds h'=>
  rw [z] at q'
  obtain ⟨rfl,z2⟩:=zci z
  exact ⟨ds,z2,q'⟩
theorem zeh (ho:SE X E o fo) (he:SE X E e fe)
  (hbase:attributeBase o "append" X.env (eval o X.env)=eval o X.env:=by rfl)
  (hfew:((backTo cpos (starEach [e] X.env)).all (fun x=> !x.1) && (backToKw cpos (keywordEach [] X.env)).all (fun x=>x.1.isSome)
    && decide (([e]:List Expr).length+([]:List Keyword).length+(if ([]:List Keyword).isEmpty then 0 else 1)<30))=true:=by rfl)
  (hline:(apos.endLine==cpos.line)=true:=by rfl) (hs:starEach [e] X.env=(false,eval e X.env)::starEach [] X.env:=by rfl) (hplain:(backTo cpos (starEach [] X.env)).any (·.1)=false:=by rfl):
  SE X E (.Call (.Attribute o "append" apos) [e] [] cpos) (zcv fo fe):=by
 refine PE.imp (zph PySem.F.plainAttrs_list PySem.F.slot_list_append PySem.F.type_list_append zhk ho (zbK he zdc hs) hbase hfew hline hs hplain) fun σ H Q ⟨ι,h,sd,L,hh,q⟩=>⟨ι,h,sd,L,hh,Fin.bind q fun d h1 ι1 H1 e1 s1 hr1 q1 v rv=> ?_⟩
 cases d with
 | cel n=>
  have q2:Fin X.K E ι1 H1 ((zaj n>>=fun _=>fe sd>>=fun y=>zcb (.cel n) y) h1) (fun d ι' H'=> ∀ v,Rel X.K ι' H' d v->Q v H'):=by
   have ee:(zdb (.cel n)>>=fun _=>fe sd>>=fun y=>zcb (.cel n) y:M D)=(zaj n>>=fun _=>fe sd>>=fun y=>zcb (.cel n) y):=by
    show ((zaj n>>=fun _=>pure ())>>=fun _=>fe sd>>=fun y=>zcb (.cel n) y)=_
    simp only [bind_assoc,pure_bind]
   rw [<- ee]
   exact q1
  obtain ⟨ds,e2,q3⟩:=zf6 q2
  obtain ⟨a,vs,rfl,hn,hH,rl⟩:=hr1.read rv e2
  refine ⟨.inl ⟨rfl,vs,SqL.of hH⟩,ι1,h1,sd,L.step s1,hr1,Fin.bind q3 fun y h3 ι3 H3 e3 s3 hr3 q4 w rw'=> ?_⟩
  have rv3:=rv.step s3
  have q5:Fin X.K E ι3 H3 ((zaj n>>=fun ds=>fits (ds.length+1)>>=fun _=>zby n (ds++[y])>>=fun _=>pure D.non) h3) (fun d ι' H'=> ∀ v,Rel X.K ι' H' d v->Q v H'):=q4
  obtain ⟨ds3,e4,q6⟩:=zf6 q5
  obtain ⟨a3,vs3,ea,hn3,hH3,rl3⟩:=hr3.read rv3 e4
  cases ea
  obtain ⟨z,q7⟩:=Fin.fits q6
  refine ⟨a,vs3,w,rfl,rfl,hH3,by rw [<- rl3.length];omega,?_⟩
  have q8:Fin X.K E ι3 H3 (R.ok D.non (h3.set n (.lst (ds3++[y])))) (fun d ι' H'=> ∀ v,Rel X.K ι' H' d v->Q v H'):=q7
  exact q8 ι3 _ (hr3.cellS hn3) (hr3.cell hn3 (rl3.append (zal.cons rw' zal.nil))) _ (by simp [Rel])
 | _=>exact False.elim q1
end
end L3
namespace Att
open PySem PySem.W PySem.Calls PyProof.Rows
theorem zfL: ∀ {ns:List Int} {i:Int},i∈ns->Builtin.Int.intBits i<=WData.weightAll (ns.map WData.int)
 | n::r,i,h=>by
  rw [qaz,WData.weightAll]
  rcases List.mem_cons.mp h with e | e
  ·subst e
   have:WData.weight (.int i)=Builtin.Int.intBits i:=by simp only [WData.weight,Builtin.Int.intBits]
   omega
  ·have:=zfL e
   omega
theorem zqf {ns:List Int} (h:WData.layableAll [WData.list (ns.map WData.int)]=true): ∀ i∈ns,Builtin.Int.intBits i<=2^20:=by
 intro i hi
 have h2:WData.weight (WData.list (ns.map WData.int))<=2^20:=by
  simp only [WData.layableAll,List.all_cons,List.all_nil,Bool.and_true,WData.layable,Bool.and_eq_true,qau] at h
  exact h.2
 have h3:WData.weight (WData.list (ns.map WData.int))=WData.weightAll (ns.map WData.int):=by simp only [WData.weight]
 have:=zfL hi
 omega
theorem zgW {l:OpenLaw} {n:Nat} {q:Program} {loose:List Str} {XP:(Str->Option Value)->Heap->Prop} {YP:World->Heap->Prop} {d:DefRec}
  (hn:l.most=some n) (hdf:d.params.defaults=[])
  (call: ∀ (w:World) (s₀ s₁:Shared) (mg mb:Str->Option Value) (fa:Addr) (o:Obj) (pm cd doc:Value) (a:Addr) (vs:List Value) (ns:List Int),
    Ground q loose [] XP w s₀ mg mb s₁.heap->YP w s₁.heap->
    s₁.heap.get? fa=some o->o.data= .func (docDef d.name d.params d.body d.scope pm cd doc)->s₁.heap.CodeRec cd d.name->mg d.name=some (.ref fa)->
    s₁.heap.get? a=some {cls:= .type "list",data:= .seq vs.toArray}->IntsAre vs ns->ns.length<=n->(∀ i∈ns,Builtin.Int.intBits i<=2^20)->s₁.gens= #[]->
    codeAny (model l.prog w) callerA (.call (.ref fa) ⟨[.ref a],[]⟩) (fun r s'=>r= .ok (.ret (.bool true))/\OldK s₁.heap s'.heap/\s'.os=s₁.os/\AllBare s'.gens) s₁):
  WalkO q loose XP YP l.row.toRowW d [] (fun f vs=>PySem.call f vs):=by
 intro w s₀ s₁ mg mb G Y fa o pm cd doc dV kV ho hd hcd hD hmg hg args vals as hpre hlay hrd hwl hlo
 obtain rfl:dV= .none:=Dflts.none hD hdf
 obtain rfl:kV= .none:=Dflts.noKw hD
 obtain ⟨a,vs,ns,rfl,rfl,hobj,hints,hlen⟩:=zlA hn hpre hwl
 refine enter_call (codeAny_mono (call w s₀ s₁ mg mb fa o pm cd doc a vs ns G Y ho (fd_plain hd) hcd hmg hobj hints hlen (zqf hlay) hg) fun r s' hq=> ?_)
 obtain ⟨rfl,h2,h3,h4⟩:=hq
 exact ⟨.inl ⟨.bool true,.bool true,[],rfl,fun _=>rfl,.bool true,zks l _,fun _=>⟨List.Pairwise.nil,fun _ hm=>(nomatch hm)⟩⟩,h2,h3,h4⟩
end Att
namespace L2
open PySem PySem.Spec PyProof.Rows
theorem znC {l:W.OpenLaw} {n k:Nat} {q:Program} {loose:List Str} {XP:(Str->Option Value)->Heap->Prop} {YP:World->Heap->Prop} {d:DefRec} {K:Params->W.Frag} {CX:World->CXT} {sp:World->Sp} {x:Str}
  (hn:l.most=some n) (hn2:n<=sizeLine) (hdf:d.params.defaults=[]) (hr:zda k callerA)
  (hY: ∀ (w:World) (h:Heap),YP w h->(K w.params).In h)
  (F: ∀ (w:World) (mg:Str->Option Value) (fa:Addr) (h:Heap),(K w.params).In h->h.Ns mainGlobals mg->mg d.name=some (.ref fa)->
    ∃ fd:FuncData,(∀ (s:Shared) (u:Value),BindsTo s fd ⟨[u],[]⟩ [(x,u)])/\
      ∀ base:Heap,(K w.params).In base->base.Ns mainGlobals mg->zbG l.prog w (K w.params) mg base (CX w) k fa fd [x] (sp w))
  (hsp: ∀ (w:World) (H:Hp) (a:Addr) (ns:List Int),ns.length<=n->(∀ i∈ns,Builtin.Int.intBits i<=2^20)->SqL (K w.params) H a (ns.map V.int)->sp w [.ref a] H (fun v _=>v= .bl true) fun _ _ _=>False)
  (hCX: ∀ (w:World) (H:Hp) (s:Shared) (e:Value) (s':Shared),CX w [] H s (fun _ _ _=>False) e s'->False):
  W.WalkO q loose XP YP l.row.toRowW d [] (fun f vs=>PySem.call f vs):=by
 refine Att.zgW hn hdf fun w s₀ s₁ mg mb fa o pm cd doc a vs ns G Y ho hd hcd hmg hobj hints hlen hbits hg=> ?_
 have KX:=hY w _ Y
 obtain ⟨fd,hb,hF⟩:=F w mg fa _ KX G.T.g hmg
 exact znh KX G.T.g G.T.b G.T.builtins G.T.nolimit hg hobj hints (qaE hlen hn2) hr hF hb (fun H hO hS=>hsp w H a ns hlen hbits hS) fun H e s'=>hCX w H s₁ e s'
end L2
namespace L3
open PySem PySem.Spec PyProof.Rows L2 LT
section
variable {X:Cx} {E:XE}
noncomputable def zhu (i j:Int):Bool:=decide (Builtin.Int.intBits i+Builtin.Int.intBits j<=2^26)
theorem zl2 {i j:Int} (h:zhu i j=true):IntMulOk i j:=by
 unfold zhu at h
 rw [qau] at h
 unfold IntMulOk
 intro z
 rw [Bool.and_eq_true] at z
 have z2:=z.2
 unfold Builtin.Int.intTooBig at z2
 have hb:bitsLine=2^27:=rfl
 rw [qau,hb] at z2
 omega
theorem zqu:OpR X (binaryOp .Mult) (rI (fun i j=>IntMulOk i j) fun i j=> .int (i*j)):=opI fun _ _ _ _ _ _ _ hc q=>mul_int q hc
noncomputable def zgj:=dII (fun i j=>za0 i || za0 j || zhu i j) fun i j=> .int (i*j)
theorem ze2:OpR X (binaryOp .Mult) (zcT X.K E zgj):=zjK (zqu) (fun i j h=>by
  rw [Bool.or_eq_true] at h
  rcases h with h | h
  · rcases (Bool.or_eq_true _ _).mp h with z | z
    · have:=zcz z
      exact IntMulOk.of_left (intBits_le_64 this.1 this.2)
    · have:=zcz z
      exact IntMulOk.of_right (intBits_le_64 this.1 this.2)
  · exact zl2 h) fun _ _ _ _=>by simp [Rel]
end
end L3
namespace PySem
open Sem (wp)
open AutoSeq1 (wpAny_loadPart')
section
variable {prog:Program} {w:World} {A:Around} {E:Value->Shared->Prop} {s:Shared}
end
end PySem
namespace L2
open PySem PySem.Spec PyProof.Rows LT
theorem zfa: ∀ (ns:List Int) (us:List Value),ns.length=us.length->(∀ (j:Nat) u,us[j]? = some u-> ∃ t,u=Value.int (ns.getD j 0) t)->zaV (ns.map V.int) us
 | [],[],_,_=> .nil
 | [],_::_,h,_=>by cases h
 | _::_,[],h,_=>by cases h
 | n::ns,u::us,h,hg=>by
  refine .cons ?_ (zfa ns us (by simpa using h) fun j w e=> ?_)
  ·obtain ⟨t,e⟩:=hg 0 u rfl
   exact ⟨t,by simpa using e⟩
  ·obtain ⟨t,e⟩:=hg (j+1) w (by simpa using e)
   exact ⟨t,by simpa using e⟩
section
variable {X:Cx}
theorem zh8:zay X (.type "range") (fun xs H Q=> ∃ j:Int,xs=[.int j]/\ ∀ p,H p=none->Q (.ref p) (upd H p (.rng 0 j))):=by
 intro pins s σ H xs us Q I r h
 obtain ⟨j,rfl,q⟩:=h
 obtain ⟨u,rfl,rx⟩:=zdp r
 obtain ⟨t,rfl⟩:=rx
 refine call_range_1 ?_
 exact ⟨.ref s.heap.objs.size,_,I.laid (t':=s.toks+1+1) (o:= .rng 0 j) (fun b ob q=>qad _ q) (qaG _) ⟨_,_,_,qal _ rfl⟩,rfl,q _ (I.hok.fresh (qaG _))⟩
theorem zmS {j:Int} (h0:0<=j):Builtin.Range.rangeSize 0 j 1=(j.toNat:Int):=by
 unfold Builtin.Range.rangeSize
 rw [if_pos (by decide)]
 split
 ·rw [Int.ediv_one];omega
 ·omega
end
end L2
namespace L3
open PySem PySem.Spec PyProof.Rows L2 LT
section
variable {X:Cx} {E:XE} {e:Expr} {f:FE}
theorem zn0 {K:W.Frag} {ι:Io} {H:Hp} {n:Nat}:zal K ι H (zc9 0 n) (((List.range n).map fun (k:Nat)=>(k:Int)).map V.int):=by
 have:zc9 0 n=((List.range n).map fun (k:Nat)=>(k:Int)).map D.int:=by unfold zc9;simp
 rw [this]
 exact zcM.mpr rfl
end
@[simp] theorem zaP {d:D} {r:Sd}:zag 0 (some d::r)=pure d:=rfl
@[simp] theorem za5 {n:Nat} {x:Option D} {r:Sd}:zag (n+1) (x::r)=zag n r:=rfl
noncomputable def zcq (m:Int):Int->List D->Bool
 | _,[]=>true
 | l,.int i::r=>decide (l<=i) && decide (i<m) && zcq m (i+1) r
 | _,_::_=>false
theorem zcN {m:Int}: ∀ {xs:List Int} {l:Int},zcq m l (xs.map D.int)=true↔xs.Pairwise (· < ·)/\ ∀ x∈xs,l<=x/\x<m
 | [],l=>by simp [zcq]
 | x::r,l=>by
  rw [qaz,zcq,Bool.and_eq_true,Bool.and_eq_true,zcN (xs:=r) (l:=x+1),List.pairwise_cons]
  simp only [qau,List.mem_cons,forall_eq_or_imp]
  constructor
  ·rintro ⟨⟨h1,h2⟩,h3,h4⟩
   refine ⟨⟨fun y hy=> ?_,h3⟩,⟨h1,h2⟩,fun y hy=> ?_⟩
   ·have:=(h4 y hy).1;omega
   ·have:=h4 y hy;omega
  ·rintro ⟨⟨h1,h2⟩,⟨h3,h4⟩,h5⟩
   refine ⟨⟨h3,h4⟩,h2,fun y hy=> ?_⟩
   have a1:=h1 y hy
   have a2:=h5 y hy
   omega
theorem zgb {m:Int}: ∀ {ts:List D} {l:Int},zcq m l ts=true->l<=m->(ts.length:Int)<=m - l
 | [],l,_,h=>by simp;omega
 | d::r,l,h,hl=>by
  cases d<;>first
   | (simp [zcq] at h;done)
   | (rename_i i
      rw [zcq,Bool.and_eq_true,Bool.and_eq_true,qau,qau] at h
      have:=zgb h.2 (by omega)
      simp
      omega)
noncomputable def Bx (b:Nat) (h:Hh):Prop:= ∃ z:Int,h[b]? = some (.lst [.int z])
noncomputable def Ext (b:Nat) (h h':Hh):Prop:=Bx b h'/\ ∀ (n:Nat) (c:C),n≠b->h[n]? = some c->h'[n]? = some c
theorem Ext.refl {b:Nat} {h:Hh} (q:Bx b h):Ext b h h:=⟨q,fun _ _ _ e=>e⟩
theorem Ext.trans {b:Nat} {h h1 h2:Hh} (p:Ext b h h1) (q:Ext b h1 h2):Ext b h h2:=⟨q.1,fun n c hn e=>q.2 n c hn (p.2 n c hn e)⟩
theorem Bx.set {b:Nat} {h:Hh} {z:Int} (q:Bx b h):Ext b h (h.set b (.lst [.int z])):=by
 obtain ⟨y,e⟩:=q
 have hl:=(qab.mp e).1
 exact ⟨⟨z,qaf hl⟩,fun n c hn e=>by rw [qak (Ne.symm hn)];exact e⟩
theorem Bx.push {b:Nat} {h:Hh} {c:C} (q:Bx b h):Ext b h (h++[c]):=by
 obtain ⟨y,e⟩:=q
 have hl:=(qab.mp e).1
 refine ⟨⟨y,by rw [qac hl];exact e⟩,fun n c' hn e=> ?_⟩
 rw [qac (qab.mp e).1]
 exact e
theorem zbc {j:Int} (h0:0<=j) (h:j<1000):zju [.int j]=pure (zc9 0 j.toNat):=by
 show (if zdf j=true then _ else _)=_
 rw [if_pos (by unfold zdf;simp;omega)]
theorem zmt {n:Nat} {d:D} (h:d∈zc9 0 n): ∃ i:Int,d= .int i/\0<=i/\i<n:=by
 unfold zc9 at h
 obtain ⟨k,hk,e⟩:=List.mem_map.mp h
 have:=List.mem_range.mp hk
 exact ⟨0+(k:Int),e.symm,by omega,by omega⟩
theorem zmz {n:Nat}:(zc9 0 n).length=n:=by unfold zc9;simp
theorem zbr (n:Nat):zc9 0 n=((List.range n).map fun (k:Nat)=>(k:Int)).map D.int:=by unfold zc9;simp
theorem zaE {α:Type} {c:Prop} [Decidable c] {a b:M α} {h:Hh} {P:α->Hh->Prop}:wp (if c then a else b) h P↔if c then wp a h P else wp b h P:=by split<;>exact Iff.rfl
theorem zpi {m:Int} (h0:0<=m) (h:m<=1000):zuV (.int 1) (.int m)=pure (.int (1*2^m.toNat)):=by
 show (if zqT 1 m=true then _ else _)=_
 rw [if_pos (by unfold zqT;simp;omega)]
theorem zqg {i m:Int} (h0:0<=m):ztP (.int i) (.int m)=pure (.int (i / 2^m.toNat)):=by
 show (if decide (0<=m)=true then _ else _)=_
 rw [if_pos (by simpa using h0)]
end L3
namespace L2
open PySem PySem.Spec PyProof.Rows L3
theorem zbI.there {P:Program} {w:World} {H:Hp} {h:Heap} {a:Addr} {o:HO} (x:zbI P w H h a o): ∃ ob,h.get? a=some ob:=by
 cases o with
 | lst xs=>obtain ⟨_,_,_,_,e⟩:=x;exact ⟨_,e⟩
 | tup xs=>obtain ⟨_,_,_,ob,e,_⟩:=x;exact ⟨ob,e⟩
 | dK kvs=>obtain ⟨_,_,_,_,ob,_,_,e,_⟩:=x;exact ⟨ob,e⟩
 | dT kvs=>obtain ⟨_,_,_,_,ob,_,_,e,_⟩:=x;exact ⟨ob,e⟩
 | set S n=>obtain ⟨ob,_,_,_,e,_⟩:=x;exact ⟨ob,e⟩
 | ins C dx fs=>obtain ⟨_,_,_,e,_⟩:=x;exact ⟨_,e⟩
 | own y=>exact x
 | xd fs=>obtain ⟨_,⟨ob,_,_,e,_⟩,_⟩:=x;exact ⟨ob,e⟩
 | rng lo hi=>obtain ⟨_,_,_,e⟩:=x;exact ⟨_,e⟩
 | frz ob u=>exact ⟨ob,x.1⟩
 | tbl ps=>exact ⟨_,x⟩
 | met f y=>exact ⟨_,x⟩
 | ext φ=>exact x.2.1
structure HS (H H':Hp) (h:Heap):Prop where
 free: ∀ b o,h.get? b=some o->H b=none->H' b=none
 tups: ∀ b xs,H b=some (.tup xs)->H' b=some (.tup xs)
 frzs: ∀ b o u,H b=some (.frz o u)->H' b=some (.frz o u)
 tbls: ∀ b ps,H b=some (.tbl ps)-> ∃ more,H' b=some (.tbl (ps++more))
structure FlB (P:Program) (w:World) (l:List Env) (H:Hp) (h:Heap) (H':Hp) (B:Heap):Prop where
 old: ∀ b o,h.get? b=some o->b∉frs l-> ∃ o',B.get? b=some o'/\(H b=none->o'=o)
 trk: ∀ b u,H' b=some u-> ∃ o,B.get? b=some o
 ok:HOk P w H' B
structure Fl (P:Program) (w:World) (l:List Env) (H:Hp) (s:Shared) (a C:Addr) (fl:Value) (H':Hp) (s':Shared):Prop where
 os:s'.os=s.os
 bare:AllBare s'.gens
 base: ∃ B:Heap,Fly B l a (.ref C) fl s'.heap/\FlB P w l H s.heap H' B
 slot: ∀ b o,s.heap.get? b=some o->H b=none->b∈frs l-> ∃ sl,s'.heap.get? b=some {o with slots:=sl}
 hs:HS H H' s.heap
section
variable {P:Program} {w:World} {l:List Env} {H H':Hp} {s s':Shared} {a C:Addr} {fl:Value}
theorem Fl.un (y:Fl P w l H s a C fl H' s'):Un (frs l) [] H H' s.heap s'.heap:=by
 obtain ⟨B,y1,y2⟩:=y.base
 refine ⟨fun b o e n hb _=> ?_,fun b o e n hb _=>y.slot b o e n hb,fun b o e n _=>y.hs.free b o e n,fun b o e _=> ?_,y.hs.tups,y.hs.frzs,y.hs.tbls⟩
 ·obtain ⟨o',e',q⟩:=y2.old b o e hb
  rw [<- q n]
  exact y1.stays b o' e'
 ·by_cases hb:b∈frs l
  ·obtain ⟨_,o',e',_⟩:=y1.frames.mem hb
   exact ⟨o',e'⟩
  ·obtain ⟨o',e',_⟩:=y2.old b o e hb
   exact ⟨o',y1.stays b o' e'⟩
theorem Fl.hok (y:Fl P w l H s a C fl H' s'):HOk P w H' s'.heap:=by
 obtain ⟨B,y1,y2⟩:=y.base
 exact y2.ok.kept y1.stays
theorem Fl.exc (y:Fl P w l H s a C fl H' s'): ∃ head,ziq s'.heap a (.ref C) head:=by
 obtain ⟨B,y1,y2⟩:=y.base
 obtain ⟨hd,z,_⟩:=y1.exc
 exact ⟨hd,z⟩
theorem Fl.fresh (y:Fl P w l H s a C fl H' s'):s.heap.get? a=none/\H' a=none/\a∉frs l:=by
 obtain ⟨B,y1,y2⟩:=y.base
 have nf:a∉frs l:=fun z=>by
  obtain ⟨_,o,e,n⟩:=y1.frames.mem z
  obtain ⟨_,⟨ob,vs,e2,_,_,d,_⟩,_⟩:=y1.exc
  rw [e] at e2
  cases e2
  exact n vs d
 refine ⟨?_,?_,nf⟩
 ·cases q:s.heap.get? a with
  | none=>rfl
  | some o=>
   obtain ⟨o',e,_⟩:=y2.old a o q nf
   rw [y1.new] at e
   cases e
 ·cases q:H' a with
  | none=>rfl
  | some u=>
   obtain ⟨o',e⟩:=y2.trk a u q
   rw [y1.new] at e
   cases e
theorem Fl.mv {B h':Heap} {fl':Value} (os:s'.os=s.os) (bare:AllBare s'.gens) (slot: ∀ b o,s.heap.get? b=some o->H b=none->b∈frs l-> ∃ sl,s'.heap.get? b=some {o with slots:=sl}) (hs:HS H H' s.heap)
  (fr:s'.heap.FunFrames B l) (z:Fly B l a (.ref C) fl' h') (y:FlB P w l H s.heap H' B) (u:s'.heap.UpToSlots h'):Fl P w l H s a C fl' H' {s' with heap:=h'}:=by
 refine ⟨os,bare,⟨B,z,y⟩,fun b o e n hb=> ?_,hs⟩
 obtain ⟨sl,e2⟩:=slot b o e n hb
 obtain ⟨_,o2,e3,n3⟩:=fr.mem hb
 rw [e2] at e3
 cases e3
 obtain ⟨sl',e4⟩:=u b _ e2 n3
 exact ⟨sl',e4⟩
section
variable {M:Model} {A:Around} {E:Value->Shared->Prop} {env:Env} {outer:List Env} {L:Addr} {Q:Unit->Shared->Prop}
theorem Fl.note (y:Fl P w (env::outer) H s a C .none H' s') (hfr:A.frames=some (env::outer)) (hf:env.frame=some L) (k: ∀ h',Fl P w (env::outer) H s a C (rawInt L) H' {s' with heap:=h'}->Q () {s' with heap:=h'}):
  wpAny M A (noteFrame (.ref a) env) Q E s':=by
 obtain ⟨B,y1,y2⟩:=y.base
 exact zlv hfr hf y1 fun h' z u=>k h' (Fl.mv y.os y.bare y.slot y.hs y1.frames z y2 u)
theorem Fl.off (y:Fl P w l H s a C fl H' s') (k: ∀ h',Fl P w l H s a C .none H' {s' with heap:=h'}->Q () {s' with heap:=h'}):wpAny M A (setFlight (.ref a) none) Q E s':=by
 obtain ⟨B,y1,y2⟩:=y.base
 exact zdU y1 fun h' z u=>k h' (Fl.mv y.os y.bare y.slot y.hs y1.frames z y2 fun b o e n=>⟨o.slots,u b o e n⟩)
end
end
structure zeJ (X:Cx):Prop where
 stk:X.stack=X.env::X.outer
 frm:X.env.frame=some X.env.locals
 ex:X.ex=[]
theorem zeJ.frs {X:Cx} (z:zeJ X):frs X.stack=X.env.locals::frs X.outer:=by
 rw [z.stk]
 unfold L2.frs
 rw [List.filterMap_cons,z.frm]
section
variable {X:Cx} {pins:List (Addr×Obj)} {σ:St} {H H':Hp} {s s':Shared} {a C:Addr} {M:Model} {E:Value->Shared->Prop} {Q:Unit->Shared->Prop}
theorem Inv.below (I:Inv X pins σ H s) {b:Addr} {o:Obj} (e:X.s₀.heap.get? b=some o):b≠X.env.locals:=qaD (qap (qaC e) I.ok.above)
theorem Fl.leave (z:zeJ X) (I:Inv X pins σ H s) (y:Fl X.prog X.w X.stack H s a C .none H' s') (k: ∀ s2,Fl X.prog X.w X.outer X.H₀ X.s₀ a C .none H' s2->Q () s2):wpAny M X.A (leaving X.env (.ref a)) Q E s':=by
 have nex: ∀ b,b∉X.ex:=fun b h=>by rw [z.ex] at h;cases h
 obtain ⟨B,y1,y2⟩:=y.base
 have hfr:=I.ok.frames
 rw [z.stk] at hfr y1
 refine zmX hfr z.frm y1 fun h' q u=>k _ ?_
 have nin: ∀ b o,X.s₀.heap.get? b=some o->b∉frs X.outer->b∉frs X.stack:=fun b o e hb hm=>by
  rw [z.frs] at hm
  rcases List.mem_cons.mp hm with r | r
  ·exact I.below e r
  ·exact hb r
 refine ⟨y.os.trans I.os,y.bare,⟨B,q,fun b o e hb=> ?_,y2.trk,y2.ok⟩,fun b o e n hb=> ?_,fun b o e n=> ?_,fun b xs e=>y.hs.tups b xs (I.base.tups b xs e),fun b o v e=>y.hs.frzs b o v (I.base.frzs b o v e),fun b ps e=> ?_⟩
 ·obtain ⟨o1,e1⟩:=I.base.there b o e (nex b)
  obtain ⟨o2,e2,q2⟩:=y2.old b o1 e1 (nin b o e hb)
  refine ⟨o2,e2,fun n=> ?_⟩
  have e3:=I.base.keep b o e n hb (nex b)
  rw [e1] at e3
  cases e3
  exact q2 (I.base.free b o e n (nex b))
 ·obtain ⟨sl,e1⟩:=I.base.slot b o e n hb (nex b)
  have hb2:b∈frs X.stack:=by rw [z.frs];exact qaj _ hb
  obtain ⟨sl2,e2⟩:=y.slot b _ e1 (I.base.free b o e n (nex b)) hb2
  obtain ⟨_,o3,e3,n3⟩:=y1.frames.mem (by rw [<- z.stk];exact hb2)
  rw [e2] at e3
  cases e3
  obtain ⟨sl4,e4⟩:=u b _ e2 n3
  exact ⟨sl4,e4⟩
 ·obtain ⟨o1,e1⟩:=I.base.there b o e (nex b)
  exact y.hs.free b o1 e1 (I.base.free b o e n (nex b))
 ·obtain ⟨m1,e1⟩:=I.base.tbls b ps e
  obtain ⟨m2,e2⟩:=y.hs.tbls b _ e1
  exact ⟨m1++m2,by rw [e2,Array.append_assoc]⟩
theorem Fl.made {h':Heap} {vs:List Value} (z:zeJ X) (I:Inv X pins σ H s) (m:Heap.MadeExcOf s.heap h' a (.ref C) vs) (k: ∀ s2,Fl X.prog X.w X.outer X.H₀ X.s₀ a C .none H s2->Q () s2):wpAny M X.A (leaving X.env (.ref a)) Q E {s with heap:=h'}:=by
 have nex: ∀ b,b∉X.ex:=fun b h=>by rw [z.ex] at h;cases h
 have hfr:=I.ok.frames
 have hl:=I.stack
 have hin: ∀ env∈X.stack, ∀ b,env.frame=some b->b∈frs X.stack:=fun env he b hb=>List.mem_filterMap.mpr ⟨env,he,hb⟩
 have hl2:=W.funFrames_hide hl hin
 have hl3:h'.FunFrames (W.hideAll s.heap (frs X.stack)) X.stack:=hl2.of_keeps fun b o e _=>⟨o,m.keeps b o e,rfl⟩
 have inB: ∀ {b:Addr} {o:Obj},s.heap.get? b=some o->b∉frs X.stack->(W.hideAll s.heap (frs X.stack)).get? b=some o:=fun e n=>W.hideAll_get _ e n
 have ofB: ∀ {b:Addr} {o:Obj},(W.hideAll s.heap (frs X.stack)).get? b=some o->s.heap.get? b=some o:=fun e=>W.of_hideAll _ e
 have trk: ∀ b u,H b=some u->b∉frs X.stack:=fun b u e hm=>by rw [I.stkFree b hm] at e;cases e
 have newB:(W.hideAll s.heap (frs X.stack)).get? a=none:=by
  cases q:(W.hideAll s.heap (frs X.stack)).get? a with
  | none=>rfl
  | some o=>have:=ofB q;rw [m.new] at this;cases this
 have hst:=z.stk
 refine zhK (B:=W.hideAll s.heap (frs X.stack)) (by rw [<- hst];exact hfr) (by rw [<- hst];exact hl3) z.frm (zmZ m) (fun b o e=>m.keeps b o (ofB e)) newB fun h2 q u=>k _ ?_
 have nin: ∀ b o,X.s₀.heap.get? b=some o->b∉frs X.outer->b∉frs X.stack:=fun b o e hb hm=>by
  rw [z.frs] at hm
  rcases List.mem_cons.mp hm with r | r
  ·exact I.below e r
  ·exact hb r
 refine ⟨I.os,I.bare,⟨_,q,fun b o e hb=> ?_,fun b v e=> ?_,fun b v e=> ?_⟩,fun b o e n hb=> ?_,fun b o e n=>I.base.free b o e n (nex b),I.base.tups,I.base.frzs,I.base.tbls⟩
 ·obtain ⟨o1,e1⟩:=I.base.there b o e (nex b)
  refine ⟨o1,inB e1 (nin b o e hb),fun n=> ?_⟩
  have e3:=I.base.keep b o e n hb (nex b)
  rw [e1] at e3
  cases e3
  rfl
 ·obtain ⟨o,e1⟩:=(I.hok b v e).there
  exact ⟨o,inB e1 (trk b v e)⟩
 ·refine (I.hok b v e).stay (fun c o hc e1=>inB e1 ?_) (fun _ r=>r) fun _ _ r=>r
  rcases hc with rfl | hc
  ·exact trk _ v e
  ·exact trk _ _ hc
 ·obtain ⟨sl,e1⟩:=I.base.slot b o e n hb (nex b)
  have hb2:b∈frs X.stack:=by rw [z.frs];exact qaj _ hb
  obtain ⟨_,o3,e3,n3⟩:=hl.mem hb2
  rw [e1] at e3
  cases e3
  obtain ⟨sl4,e4⟩:=u b _ (m.keeps b _ e1) n3
  exact ⟨sl4,e4⟩
end
noncomputable def CXE (P:Program) (w:World):CXT:=fun outer H s E e s'=> ∃ a C H',e= .ref a/\Fl P w outer H s a C .none H' s'/\E e (some C) H'
end L2
namespace L3
open PySem PySem.Spec PyProof.Rows L2
noncomputable def zca (K:W.Frag) (c:String) (C:Addr):Prop:=W.nsIn K mainGlobals (c:Str)=some (some (.ref C))
noncomputable def zqO (K:W.Frag) (E:XE):XK:=fun _ oc H'=> ∃ c C,oc=some C/\zca K c C/\E c H'
noncomputable def ztE (K:W.Frag) (E:XK):XE:=fun c H'=> ∀ C v,zca K c C->E v (some C) H'
noncomputable def zqC (X:Cx) (E:XE):Prop:= ∀ (pins:List (Addr×Obj)) (σ:St) (H:Hp) (s:Shared) (h':Heap) (a C:Addr) (c:String) (vs:List Value),Inv X pins σ H s->zca X.K c C->Heap.MadeExcOf s.heap h' a (.ref C) vs->E c H->X.xe (.ref a) {s with heap:=h'}
section
variable {P:Program} {w:World} {K:W.Frag} {mg:Str->Option Value} {base:Heap} {N:List Str} {qual:Str} {scope:Scope} {f:Addr} {cd:Value} {A:Around} {outer:List Env} {s:Shared} {H:Hp} {E:XK}
theorem zop:zeJ (zhC (CXE P w) P w K mg base N qual scope f cd A outer s H E):=⟨rfl,rfl,rfl⟩
theorem zcc:zc7 (CXE P w) (zhC (CXE P w) P w K mg base N qual scope f cd A outer s H E) (zqO K (ztE K E)):=by
 intro pins σ H1 s1 e s2 I h
 obtain ⟨a,C,H2,rfl,y,c,C',e1,hc,he⟩:=h
 cases e1
 exact Fl.leave zop I y fun s3 y3=>⟨a,C,H2,rfl,y3,he _ _ hc⟩
theorem zfV:zqC (zhC (CXE P w) P w K mg base N qual scope f cd A outer s H E) (ztE K E):=by
 intro pins σ H1 s1 h' a C c vs I hc m he
 exact Fl.made zop I m fun s3 y3=>⟨a,C,H1,rfl,y3,he _ _ hc⟩
end
noncomputable def noX {α:Type} (m:M α):M α:=fun h=>match m h with
 | .exc _ _=> .bad
 | r=>r
theorem Fin.noX {α:Type} {K:W.Frag} {E E':XE} {ι:Io} {H:Hp} {m:M α} {h:Hh} {P:α->Io->Hp->Prop} (q:Fin K E ι H (L3.noX m h) P):Fin K E' ι H (m h) P:=by
 unfold L3.noX at q
 cases e:m h with
 | ok a h'=>rw [e] at q;exact q
 | exc c h'=>rw [e] at q;exact False.elim q
 | bad=>rw [e] at q;exact q
noncomputable def spE (K:W.Frag) (n:Nat) (F:List D->M D):Sp:=fun vs H Q E=>vs.length=n/\ ∃ ι h ds,zal K ι H ds vs/\za1 K ι H h/\Fin K (ztE K E) ι H (F ds h) fun d ι' H'=> ∀ v,Rel K ι' H' d v->Q v H'
section
variable {P:Program} {w:World} {K:W.Frag} {mg:Str->Option Value} {base:Heap}
theorem zd4 {x qual:Str} {st:Stmt} {f:Addr} {fd:FuncData} {N ps:List Str} {k:Nat} {G:Sd->M Out} (F:Fun K x qual st f fd) (S:zas N ps (zae st))
  (hb: ∀ (cdv:Value) (A:Around) (outer:List Env) (s:Shared) (H:Hp) (E:XK),zda k (A.deeper (envOfC qual (zae st) s.heap.objs.size f cdv))->SSs (zhC (CXE P w) P w K mg base N qual (zae st) f cdv A outer s H E) (ztE K E) (zcf st) G):
  zbG P w K mg base (CXE P w) (k+1) f fd ps (spE K ps.length (zcZ N.length G)):=by
 obtain ⟨oc,od,kV,doc,pm,an,cdv,ct,osl,rfl,lk,hcd⟩:=F.ex
 refine zsk lk hcd S (fun vs H Q E h=>h.1) fun A outer s H vs Q E hr ⟨hl,ι,h,ds,rl,hh,q⟩=>⟨_,hb cdv A outer s H E hr,ι,h,zfC N.length ds,zdT rl,hh,?_⟩
 refine Fin.bind q fun o h1 ι1 H1 e1 s1 hr1 q1=> ?_
 cases o with
 | nx sd=>exact fun σ' _=>Fin.out hr1 q1 _ (by simp [Rel])
 | rt d=>exact fun v rv=>Fin.out hr1 q1 v rv
 | bk sd=>exact False.elim q1
 | ct sd=>exact False.elim q1
end
section
variable {X:Cx} {E:XE} {e:Expr} {es:List Expr} {pos p:Pos}
theorem Fin.exmono {α:Type} {K:W.Frag} {E E':XE} {ι:Io} {H:Hp} {r:R α} {P:α->Io->Hp->Prop} (m: ∀ c H',E c H'->E' c H') (q:Fin K E ι H r P):Fin K E' ι H r P:=by
 cases r with
 | ok a h'=>exact q
 | exc c h'=>exact fun ι2 H2 t hr=>m _ _ (q ι2 H2 t hr)
 | bad=>exact q
theorem znR {k:Nat} {f:Addr} {fd:FuncData} {ps:List Str} {n:Nat} {F:List D->M D} {fs:Sd->M (List D)} {x:Str} (G:zbG X.prog X.w X.K X.mg X.base (CXE X.prog X.w) k f fd ps (spE X.K n F)) (hx:zc7 (CXE X.prog X.w) X (zqO X.K E)) (hr:zda k X.A) (hg:Gl X x) (hm:X.mg x=some (.ref f)) (hk:W.keepIn X.K (.ref f)=true) (hb:zaF X.K fd ps [])
  (ha:SA X E (e::es) fs) (hdb:(x==("__debug__":Str))=false:=by decide) (he:starEach (e::es) X.env=(false,eval e X.env)::starEach es X.env:=by rfl) (hpl:(backTo pos (starEach es X.env)).any (·.1)=false:=by rfl):
  SE X E (.Call (.Name x p) (e::es) [] pos) (zaC (zat n F) fs):=by
 refine PE.imp (zhS G hr hg hm hk hb (dvs:=[]) .nil hx ha hdb he hpl) fun σ H Q ⟨ι,h,sd,L,hh,q⟩=>⟨ι,h,sd,L,hh,Fin.bind q fun ds h1 ι1 H1 e1 s1 hr1 q1 vs rv=> ?_⟩
 show spE X.K n F (vs++[]) H1 Q _
 rw [List.append_nil]
 unfold zat at q1
 by_cases hl:ds.length=n
 ·rw [if_pos hl] at q1
  exact ⟨by rw [<- rv.length];exact hl,ι1,h1,ds,rv,hr1,Fin.exmono (fun c H' z C v hc=>⟨c,C,rfl,hc,z⟩) q1⟩
 ·rw [if_neg hl] at q1
  exact False.elim q1
theorem znm {k:Nat} {f:Addr} {fd:FuncData} {ps:List Str} {n:Nat} {F:List D->M D} {fs:Sd->M (List D)} {x:Str} (G:zbG X.prog X.w X.K X.mg X.base CX0 k f fd ps (zcn X.K n F)) (hr:zda k X.A) (hg:Gl X x) (hm:X.mg x=some (.ref f)) (hk:W.keepIn X.K (.ref f)=true) (hb:zaF X.K fd ps [])
  (ha:SA X E (e::es) fs) (hdb:(x==("__debug__":Str))=false:=by decide) (he:starEach (e::es) X.env=(false,eval e X.env)::starEach es X.env:=by rfl) (hpl:(backTo pos (starEach es X.env)).any (·.1)=false:=by rfl):
  SE X E (.Call (.Name x p) (e::es) [] pos) (zaC (zat n fun ds=>noX (F ds)) fs):=by
 refine PE.imp (zhS G hr hg hm hk hb (dvs:=[]) .nil (E:=fun _ _ _=>False) zro ha hdb he hpl) fun σ H Q ⟨ι,h,sd,L,hh,q⟩=>⟨ι,h,sd,L,hh,Fin.bind q fun ds h1 ι1 H1 e1 s1 hr1 q1 vs rv=> ?_⟩
 show zcn X.K n F (vs++[]) H1 Q _
 rw [List.append_nil]
 unfold zat at q1
 by_cases hl:ds.length=n
 ·rw [if_pos hl] at q1
  exact ⟨by rw [<- rv.length];exact hl,ι1,h1,ds,rv,hr1,Fin.noX q1⟩
 ·rw [if_neg hl] at q1
  exact False.elim q1
end
end L3
namespace L2
open PySem PySem.Spec PyProof.Rows L3
structure zc2 (k:Nat) (A:Around):Prop where
 dp:A.depth+3*k+5<recursionLimit
 un:A.units+16*k+200<cLine
theorem zc2.of {k:Nat} {A:Around} (r:zda k A):zc2 k A:=⟨r.dp,r.un⟩
theorem zc2.deeper {k:Nat} {A:Around} (r:zc2 (k+1) A) (env:Env):zc2 k (A.deeper env):=
 ⟨by have:=r.dp;show A.depth+1+3*k+5<_;omega,by have:=r.un;show A.units+3+16*k+200<_;omega⟩
theorem zc2.mono {j k:Nat} {A:Around} (r:zc2 k A) (h:j<=k):zc2 j A:=⟨by have:=r.dp;omega,by have:=r.un;omega⟩
structure FnH (P:Program) (w:World) (K:W.Frag) (mg:Str->Option Value) (base:Heap) (k:Nat) (f:Addr) (fd:FuncData) (ps:List Str) (sp:Sp):Prop where
 len: ∀ vs H Q E,sp vs H Q E->vs.length=ps.length
 run: ∀ (A:Around) (outer:List Env) (s:Shared) (H:Hp) (args:Args) (us:List Value) (vs:List V) (Q:VK),zc2 k A->zn4 P w K mg base A outer s H->BindsTo s fd args (ps.zip us)->zaV vs us->sp vs H Q E0->
  codeAny (model P w) A (.call (.ref f) args) (CR CX0 outer P w H s Q E0) s
theorem zrB {P:Program} {w:World} {K:W.Frag} {mg:Str->Option Value} {base:Heap} {k:Nat} {f:Addr} {name qual:Str} {params:Arguments} {body:List Stmt} {scope:Scope} {dV kV doc pm cdv ct oc:Value} {an od:Option Addr}
  {osl:Array (Option Value)} {N ps:List Str} {sp:Sp} (lk:K.lookup f=some ⟨oc,od,.func (W.fnOf name qual params body scope dV kV doc pm an cdv ct),osl⟩) (hcd:W.codeIn K cdv qual=true) (S:zas N ps scope)
  (len: ∀ vs H Q E,sp vs H Q E->vs.length=ps.length)
  (hbody: ∀ (A:Around) (outer:List Env) (s:Shared) (H:Hp) (vs:List V) (Q:VK),zc2 k (A.deeper (envOfC qual scope s.heap.objs.size f cdv))->sp vs H Q E0->
    ∃ t,PSs ({zhC CX0 P w K mg base N qual scope f cdv A outer s H E0 with calm:=false}:Cx).nox body t/\t {nx:=fun _ H'=>Q .non H',rt:=Q} (zdR N vs) H):
  FnH P w K mg base (k+1) f (W.fnOf name qual params body scope dV kV doc pm an cdv ct) ps sp:=by
 refine ⟨len,fun A outer s H args us vs Q hr e0 hb r hsp=> ?_⟩
 have hl:=len _ _ _ _ hsp
 have KX:K.In s.heap:=e0.mod.kin.keeps fun b o e=>(e0.bs b o e).1
 have lim:s.heap.NoLimit:=e0.mod.nolimit.keeps fun b o e=>(e0.bs b o e).1
 have hkind: ∀ y∈ps.zip us,scope.names.lookup y.1=some .local\/(scope.names.lookup y.1=some .cell/\((cellsFrom (s.heap.objs.size+1) scope.names []).lookup y.1).isSome=true):=fun ⟨n,v⟩ hy=>by
  rcases S.par n (List.of_mem_zip hy).1 with q | q
  ·exact .inl q
  ·exact .inr ⟨q,W.cellsFrom_some _ _ _ (.inl q)⟩
 refine codeAny_call_function (by have:=hr.dp;omega) (KX _ _ lk) rfl S.co S.gen rfl (W.codeRec_of KX hcd) (hb _ _ _ _ ?_)
 refine wpAny_newFunctionEnv_cells S.kind hkind fun env he s1 x=> ?_
 subst he
 refine ⟨lim.keeps x.toInCall.keep,codeAny_func ?_⟩
 obtain ⟨t,ht,hq⟩:=hbody A outer s H vs Q (hr.deeper _) hsp
 have I:Inv {zhC CX0 P w K mg base N qual scope f cdv A outer s H E0 with calm:=false} [] (zdR N vs) H s1:=zhr (cm:=false) S (fun z=>by cases z) e0 hl r x
 refine qaK (ht.nox [] s1 (zdR N vs) H _ I hq) (fun fl s' hs=> ?_) fun e s' hs=>hs
 have fin: ∀ {σ':St} {H':Hp} {v:V} {u:Value},Inv {zhC CX0 P w K mg base N qual scope f cdv A outer s H E0 with calm:=false} [] σ' H' s'->zbj v u->Q v H'->CE outer P w H s Q u s':=
  fun {σ' H' v u} J rv q=>⟨v,H',J.os,J.bare,J.base,J.hok,rv,q⟩
 cases fl with
 | ret u=>
  obtain ⟨v,σ',H',J,rv,q⟩:=hs
  exact fin J rv q
 | next=>
  obtain ⟨σ',H',J,q⟩:=hs
  exact fin (v:=V.non) (u:=Value.none) J rfl q
 | brk=>
  obtain ⟨_,_,_,q⟩:=hs
  exact False.elim q
 | cont=>
  obtain ⟨_,_,_,q⟩:=hs
  exact False.elim q
section
variable {X:Cx} {pins:List (Addr×Obj)} {σ:St} {H H':Hp} {s s':Shared} {a:Addr} {o:Obj}
theorem Inv.track (I:Inv X pins σ H s) (hH:H a=none) (ho:s.heap.get? a=some o) (h0:X.s₀.heap.get? a=none) (hL:a≠X.env.locals) (hc: ∀ x c,X.env.cells.lookup x=some c->c≠a) (hp: ∀ p∈X.pn++pins,p.1≠a):
  Inv X pins σ (upd H a (.frz o (.own 0))) s:=by
 have un: ∀ {b:Addr} {u:HO},H b=some u->upd H a (.frz o (.own 0)) b=some u:=fun e=>by rw [zau (zaG e hH)];exact e
 refine ⟨I.ok,I.os,I.bare,⟨I.base.keep,I.base.slot,fun b ob e n hx=> ?_,I.base.there,fun b xs e=>un (I.base.tups b xs e),fun b ob u e=>un (I.base.frzs b ob u e),fun b ps e=> ?_⟩,I.loc,I.cell,?_,fun x c e=> ?_,fun p q=> ?_,fun b u e=> ?_,I.len⟩
 ·rw [zau (fun z=>by subst z;rw [h0] at e;cases e)]
  exact I.base.free b ob e n hx
 ·obtain ⟨m,e1⟩:=I.base.tbls b ps e
  exact ⟨m,un e1⟩
 ·rw [zau (Ne.symm hL)]
  exact I.free
 ·rw [zau (hc x c e)]
  exact I.freeC x c e
 ·obtain ⟨e1,e2,e3⟩:=I.pin p q
  exact ⟨e1,by rw [zau (hp p q)];exact e2,e3⟩
 ·by_cases hb:b=a
  ·subst hb
   rw [zaL] at e
   cases e
   exact ⟨ho,o,ho⟩
  ·rw [zau hb] at e
   exact (I.hok b u e).stay (fun _ _ _ z=>z) (fun c z=>un z) fun c xs z=>un z
theorem zpz {M:Model} {A:Around} {E:Value->Shared->Prop} {i:Nat} {x:Str} {pos:Pos} {Q:Unit->Shared->Prop} (I:Inv X pins σ H s) (hN:X.N.Nodup) (hi:X.N[i]? = some x) (hk:X.env.scope.names.lookup x=some .local)
  (h: ∀ s',Inv X pins (σ.set i none) H s'->Q () s'):wpAny M A (do bindName X.env x .none;unbindBehindTheSuite X.env x pos) Q E s:=by
 obtain ⟨m,hn,hl⟩:=id I.loc
 have hcls:(X.env.scope.kind== .class || (X.env.scope.kind== .module && X.env.locals != X.env.globals))=false:=by rw [I.ok.kind];rfl
 have hiσ:i<σ.length:=by rw [I.len];exact (qab.mp hi).1
 have cne:=I.cne
 refine wpAny_nameGoes_keeps hk hn hcls fun h' v hn' hs=> ?_
 obtain ⟨oL,_,_,hoL,_⟩:=id hn
 refine h _ ⟨I.ok,I.os,I.bare,⟨fun b ob e n hb hx=> ?_,fun b ob e n hb hx=> ?_,I.base.free,fun b ob e hx=> ?_,I.base.tups,I.base.frzs,I.base.tbls⟩,⟨_,hn',fun j y v' e1 e2 e3=> ?_⟩,fun y c e=> ?_,I.free,I.freeC,fun p hp=> ?_,fun b ob e=> ?_,by simpa using I.len⟩
 ·exact (hs.2 b (I.below e)).trans (I.base.keep b ob e n hb hx)
 ·obtain ⟨sl,e1⟩:=I.base.slot b ob e n hb hx
  exact ⟨sl,(hs.2 b (I.below e)).trans e1⟩
 ·obtain ⟨o',e1⟩:=I.base.there b ob e hx
  exact ⟨o',(hs.2 b (I.below e)).trans e1⟩
 ·by_cases hj:j=i
  ·subst hj
   rw [qaf hiσ] at e2
   cases e2
  ·rw [qak (Ne.symm hj)] at e2
   obtain ⟨u',r',q⟩:=hl j y v' e1 e2 e3
   refine ⟨u',r',?_⟩
   rcases q with ⟨k,e⟩ | ⟨k,c,e,z⟩
   ·refine .inl ⟨k,?_⟩
    have:y≠x:=fun e=>hj (zfY hN e1 (e▸hi))
    simp [this,e]
   ·exact .inr ⟨k,c,e,z.sameBut hs (cne y c e)⟩
 ·obtain ⟨w',z⟩:=I.cell y c e
  exact ⟨w',z.sameBut hs (cne y c e)⟩
 ·obtain ⟨e,n,ne,nf,d⟩:=I.pin p hp
  exact ⟨(hs.2 p.1 ne).trans e,n,ne,nf,d⟩
 ·refine (I.hok b ob e).stay (fun c w' hc q=>(hs.2 c ?_).trans q) (fun _ q=>q) fun _ _ q=>q
  rintro rfl
  rcases hc with rfl | hc
  ·rw [I.free] at e;cases e
  ·rw [I.free] at hc;cases hc
end
section
variable {X:Cx} {pins:List (Addr×Obj)} {σ:St} {H H':Hp} {s s':Shared} {a C CE:Addr} {ce en:Str} {pce pos:Pos} {b₀:Stmt} {suite:List Stmt} {j:Nat} {Q:Flow->Shared->Prop} {E:Value->Shared->Prop}
theorem Fl.caught (z:zeJ X) (I:Inv X pins σ H s) (y:Fl X.prog X.w X.stack H s a C .none H' s') (hN:X.N.Nodup) (hj:X.N[j]? = some en) (hen:X.env.scope.names.lookup en=some .local) (hg:Gl X ce) (hm:X.mg ce=some (.ref CE)) (hx:W.exmOne X.K (.ref C) (.ref CE)=some true)
  (k: ∀ s6,Inv X pins (σ.set j (some (.ref a))) H' s6->(∃ head,ziq s6.heap a (.ref C) head)->wpAny (model X.prog X.w) (X.A.mark (some (.ref a))) (execs (b₀::suite) X.env)
    (fun f s4=>wpAny (model X.prog X.w) X.A (do bindName X.env en .none;unbindBehindTheSuite X.env en pos) (fun _ s5=>Q f s5) E s4) (fun _ _=>False) s6) (hd:(ce==("__debug__":Str))=false:=by decide):
  wpAny (model X.prog X.w) X.A (noteFrame (.ref a) X.env) (fun _ s2=>wpAny (model X.prog X.w) X.A (setFlight (.ref a) none) (fun _ s3=>
    wpAny (model X.prog X.w) X.A (handleBy (.ref a) X.env [.ExceptHandler (some (.Name ce pce)) (some en) (b₀::suite) pos]) Q E s3) E s2) E s':=by
 have hfr:=I.ok.frames
 rw [z.stk] at hfr y
 refine y.note hfr z.frm fun h3 y3=> ?_
 refine y3.off fun h4 y4=> ?_
 have ev: ∀ {hp fl},Fl X.prog X.w (X.env::X.outer) H s a C fl H' {s' with heap:=hp}->Inv X pins σ H' {s' with heap:=hp}:=fun {hp fl} y=>by
  have u:=y.un
  rw [<- z.stk] at u
  exact I.call' y.os u y.hok y.bare fun b q=>absurd q (by simp)
 have I4:=ev y4
 obtain ⟨hd4,x4⟩:=y4.exc
 have LT:W.Looks (model X.prog X.w) h4 (typeOf (.ref a)) (.ref C):=by
  obtain ⟨ob,vs,e1,e2,_⟩:=x4
  exact e2▸(W.Looks.ld e1).andThen .now
 refine wpAny_handleBy_cons (codeAny_handlers_test ?_) (by intro q;cases q)
 refine Calls.Name_function_global I4.ok.kind hg (Calls.loadGlobal_global (by rw [I4.ok.glob];exact I4.mod.glob.keeps I4.bk) hm ?_) hd
 refine (W.exm_one I4.kIn LT hx).here ?_
 refine codeAny_handlers_suite_as ?_
 refine y4.off fun h5 y5=> ?_
 have I5:=ev y5
 obtain ⟨hd5,x5⟩:=y5.exc
 have na:a≠X.env.locals/\ ∀ x c,X.env.cells.lookup x=some c->c≠a:=by
  obtain ⟨f1,f2,f3⟩:=y.fresh
  refine ⟨fun q=> ?_,fun x c e q=> ?_⟩
  ·obtain ⟨m,⟨oL,_,_,hoL,_⟩,_⟩:=I.loc
   rw [<- q,f1] at hoL
   cases hoL
  ·obtain ⟨v,oc,hoc,_⟩:=I.cell x c e
   rw [q,f1] at hoc
   cases hoc
 refine zgZ I5 hN hj (.inl hen) (v:= .ref a) rfl (fun s6 I6 ⟨b,sb,hb⟩=> ?_) (.inr hen)
 refine qaK (k s6 I6 ⟨hd5,x5.keep fun ob e=>(sb.2 a fun q=> ?_).trans e⟩) (fun _ _ q=>q) fun _ _ q=>q.elim
 rcases hb with hb | hb
 ·exact na.1 (q.trans hb)
 ·exact na.2 en b hb q.symm
end
noncomputable abbrev zmu:List Value:=[.type "ValueError",.type "Exception",.type "BaseException",.type "object"]
theorem zqN {K:W.Frag} {h:Heap} {mg:Str->Option Value} {x:Str} {C:Addr} {bm:List Value} {nid:String} (X:K.In h) (hm:mg x=some (.ref C)) (q:W.excIn K C bm nid=true):OwnCls x C bm nid mg h:=by
 refine ⟨hm,?_⟩
 unfold W.excIn at q
 split at q
 ·rename_i dd cdt sl lk
  split at q
  ·rename_i C2 tl y0 y1 y2 y3 nn y5 hmro hsl
   simp only [Bool.and_eq_true,beq_iff_eq,Bool.not_eq_true'] at q
   obtain ⟨⟨⟨⟨⟨rfl,rfl⟩,q3⟩,q4⟩,q5⟩,q6⟩:=q
   obtain ⟨z1,z2,z3,z4,z5,z6,z7,z8,z9,z10,z11⟩:=cdt
   dsimp only at hmro q3 q5 q6
   subst hmro q3
   obtain rfl:sl= #[y0,y1,y2,y3,some (.builtin nn),y5]:=by
    obtain ⟨ll⟩:=sl
    dsimp only at hsl
    rw [hsl]
   exact ⟨tl,z4,z1,z5,z2,z6,z7,z8,z9,z10,dd,y0,y1,y2,y3,y5,_,X _ _ lk,.of_isNs (W.isNs_of_in X q5),W.nsMap_none_of_in X q5 q6,W.tail_of_in X q4⟩
  ·cases q
 ·cases q
noncomputable def Cx.re (X:Cx) (pn:List (Addr×Obj)) (xe:Value->Shared->Prop):Cx:={X with pn:=pn,xe:=xe}
section
variable {X:Cx} {pins pins':List (Addr×Obj)} {σ:St} {H H':Hp} {s s':Shared} {xe:Value->Shared->Prop}
theorem Inv.re (I:Inv X pins σ H s) (xe:Value->Shared->Prop):Inv (X.re (X.pn++pins) xe) [] σ H s:=
 ⟨⟨I.ok.mod,I.ok.kind,I.ok.glob,I.ok.blt,I.ok.above,I.ok.inj,I.ok.has,I.ok.cab,I.ok.hd,I.ok.hx,I.ok.frames,I.ok.stk,I.ok.exf,I.ok.bs,I.ok.bsz,I.ok.noex,I.ok.exfs,I.ok.funs,I.ok.frf⟩,I.os,I.bare,I.base,I.loc,I.cell,I.free,I.freeC,fun p hp=>I.pin p (by simpa [Cx.re] using hp),I.hok,I.len⟩
theorem Inv.unre (I:Inv (X.re (X.pn++pins) xe) pins' σ H s):Inv X pins σ H s:=
 ⟨⟨I.ok.mod,I.ok.kind,I.ok.glob,I.ok.blt,I.ok.above,I.ok.inj,I.ok.has,I.ok.cab,I.ok.hd,I.ok.hx,I.ok.frames,I.ok.stk,I.ok.exf,I.ok.bs,I.ok.bsz,I.ok.noex,I.ok.exfs,I.ok.funs,I.ok.frf⟩,I.os,I.bare,I.base,I.loc,I.cell,I.free,I.freeC,fun p hp=>I.pin p (List.mem_append_left _ hp),I.hok,I.len⟩
theorem SP.unre {D:zoo} {f:Flow} (h:SP (X.re (X.pn++pins) xe) pins' D f s'):SP X pins D f s':=by
 cases f with
 | next=>obtain ⟨σ',H',I,q⟩:=h;exact ⟨σ',H',I.unre,q⟩
 | brk=>obtain ⟨σ',H',I,q⟩:=h;exact ⟨σ',H',I.unre,q⟩
 | cont=>obtain ⟨σ',H',I,q⟩:=h;exact ⟨σ',H',I.unre,q⟩
 | ret u=>obtain ⟨v,σ',H',I,r,q⟩:=h;exact ⟨v,σ',H',I.unre,r,q⟩
end
end L2
namespace L3
open PySem PySem.Spec PyProof.Rows L2
section
variable {X:Cx} {pins:List (Addr×Obj)} {σ:L2.St} {H:Hp} {s:Shared} {a C:Addr} {o:Obj} {vs:Array Value} {head:Value} {c:String} {gk en pe:Str} {p1 p2 p3:Pos} {j k:Nat} {fk:Addr} {fdk:FuncData} {Fk:List D->M D} {Qv:VK} {ι:Io} {h:Hh}
theorem zky (I:Inv X pins σ H s) (hH:H a=none) (ho:s.heap.get? a=some o) (ob:o.cls= .ref C/\o.dict=none/\o.data= .fields vs/\vs[2]? = some .none/\vs[1]? = some head)
  (h0:X.s₀.heap.get? a=none) (hL:a≠X.env.locals) (hcl: ∀ x c,X.env.cells.lookup x=some c->c≠a) (hp: ∀ p∈X.pn++pins,p.1≠a) (hj:X.N[j]? = some en) (hσ:σ[j]? = some (some (.ref a))) (hen:X.env.scope.names.lookup en=some .local)
  (FH:FnH X.prog X.w X.K X.mg X.base k fk fdk [pe] (zcn X.K 1 Fk)) (hb:zaF X.K fdk [pe] []) (hg:Gl X gk) (hm:X.mg gk=some (.ref fk)) (kp:W.keepIn X.K (.ref fk)=true) (hr:zc2 k X.A) (hc:zca X.K c C) (hh:za1 X.K ι H h)
  (q:Fin X.K E0x ι (upd H a (.frz o (.own 0))) (Fk [.exn c] h) fun d ι' H'=> ∀ v,Rel X.K ι' H' d v->Qv v H') (hd:(gk==("__debug__":Str))=false:=by decide) (hd2:(en==("__debug__":Str))=false:=by decide):
  wpAny (model X.prog X.w) (X.A.mark (some (.ref a))) (eval (.Call (.Name gk p1) [.Name en p2] [] p3) X.env) (fun u s8=> ∃ v H8,Inv X pins σ H8 s8/\zbj v u/\Qv v H8) (fun _ _=>False) s:=by
 have It:=I.track hH ho h0 hL hcl hp
 have E0':=It.env0
 refine wpAny_Call_Name_kw (Calls.Name_function_global I.ok.kind hg (Calls.loadGlobal_global (by rw [I.ok.glob];exact I.mod.glob.keeps I.bk) hm ?_) hd)
 refine W.callWith_K (h₀:=X.base) I.ok.mod.kin kp ?_
 refine Calls.spliced_cons ?_
 obtain ⟨m,hn,hl⟩:=It.loc
 obtain ⟨u,r,l⟩:=hl j en (.ref a) hj hσ (.inl hen)
 obtain rfl:u=Value.ref a:=r
 have hme:m en=some (.ref a):=by
  rcases l with ⟨_,e⟩ | ⟨e,_⟩
  ·exact e
  ·exfalso
   have e':X.env.scope.names.lookup en=some .cell\/X.env.scope.names.lookup en=some .free:=e
   rw [hen] at e'
   rcases e' with e' | e'<;>cases e'
 refine wpAny_Name (wpAny_loadName_local I.ok.kind hen hn hme ?_) hd2
 refine Calls.spliced_nil ⟨It.kIn,?_⟩
 have e0:zn4 X.prog X.w X.K X.mg X.base (X.A.mark (some (.ref a))) X.stack s (upd H a (.frz o (.own 0))):=
  ⟨It.ok.frames,E0'.mod,E0'.bs,E0'.bsz,E0'.funs,E0'.frf,E0'.hok,E0'.bare,.inr ⟨a,o,.ref C,head,vs,rfl,zaL,ob⟩⟩
 have sp:zcn X.K 1 Fk [.ref a] (upd H a (.frz o (.own 0))) Qv E0:=
  ⟨rfl,ι,h,[.exn c],zal.cons (by simp only [Rel];exact ⟨a,o,C,head,vs,rfl,⟨zaL,hh.nin hH⟩,hc,ob⟩) zal.nil,hh.laid hH,q⟩
 refine wpAny_call (codeAny_mono (FH.run (X.A.mark (some (.ref a))) X.stack s _ ⟨[.ref a],[]⟩ [.ref a] [.ref a] Qv ⟨hr.dp,hr.un⟩ e0 (hb s [.ref a] It.kIn rfl) (.cons rfl .nil) sp) fun r s' hq=> ?_)
 cases r with
 | error e=>exact False.elim hq
 | ok fl=>
  cases fl with
  | ret u=>exact It.after hq
  | next=>exact False.elim hq
  | brk=>exact False.elim hq
  | cont=>exact False.elim hq
end
noncomputable def zly (known:List String) (gb:FS) (i:Nat) (Fk:List D->M D):FS:=fun sd h=>match gb sd h with
 | .exc c h1=>if known.contains c=true then (do let d<-noX (Fk [.exn c]);pure (.nx ((List.replicate sd.length none).set i (some d))):M Out) h1 else .bad
 | r=>r
section
variable {X:Cx} {E:XE} {body:List Stmt} {ce en gk pe x:Str} {pce p1 p2 p3 p4 p5 hp pos:Pos} {CE fk:Addr} {fdk:FuncData} {Fk:List D->M D} {gb:FS} {j k i:Nat} {known:List String}
theorem zn1 {st:Stmt} {fin:Sd->D->M Out} {gt:FS} (hgt: ∀ sd h,gt sd h=match gb sd h with
      | .exc c h1=>if known.contains c=true then (do let d<-noX (Fk [.exn c]);fin sd d:M Out) h1 else .bad
      | r=>r)
  (z:zeJ X) (hN:X.N.Nodup) (hj:X.N[j]? = some en) (hen:X.env.scope.names.lookup en=some .local) (hg:Gl X ce) (hm:X.mg ce=some (.ref CE))
  (hkn: ∀ c∈known, ∀ C,zca X.K c C->W.exmOne X.K (.ref C) (.ref CE)=some true) (hd:(ce==("__debug__":Str))=false)
  (hb: ∀ pn xe E',zc7 (CXE X.prog X.w) (X.re pn xe) (zqO X.K E')->SSs (X.re pn xe) E' body gb)
  (hst: ∀ (X':Cx) (pins:List (Addr×Obj)) (σ:L2.St) (H:Hp) (s:Shared) (a:Addr) (D0:zoo) (sd:Sd) (Q:Flow->Shared->Prop) (Ef:Value->Shared->Prop) (pn:List (Addr×Obj)) (xe:Value->Shared->Prop),X'=X.re pn xe->Inv X' pins (σ.set j (some (.ref a))) H s->sd.length=X.N.length->
    (∀ Qv:VK,(∀ d ι' H' h',za1 X.K ι' H' h'->Fin X.K E ι' H' (fin sd d h') (zjT X.K D0)-> ∀ v,Rel X.K ι' H' d v->Qv v H')->
      wpAny (model X.prog X.w) (X.A.mark (some (.ref a))) (eval (.Call (.Name gk p1) [.Name en p2] [] p3) X.env) (fun u s8=> ∃ v H8,Inv X' pins (σ.set j (some (.ref a))) H8 s8/\zbj v u/\Qv v H8) (fun _ _=>False) s)->
    (∀ f s9,SP X' pins D0 f s9->Q f s9)->
    wpAny (model X.prog X.w) (X.A.mark (some (.ref a))) (execs [st] X.env) (fun f s4=>wpAny (model X.prog X.w) X.A (do bindName X.env en .none;unbindBehindTheSuite X.env en hp) (fun _ s5=>Q f s5) Ef s4) (fun _ _=>False) s)
  (FH:FnH X.prog X.w X.K X.mg X.base k fk fdk [pe] (zcn X.K 1 Fk)) (hbk:zaF X.K fdk [pe] []) (hgk:Gl X gk) (hmk:X.mg gk=some (.ref fk)) (kp:W.keepIn X.K (.ref fk)=true) (hr:zc2 k X.A) (hd2:(gk==("__debug__":Str))=false) (hd3:(en==("__debug__":Str))=false):
  SS X E (.Try body [.ExceptHandler (some (.Name ce pce)) (some en) [st] hp] [] [] pos) gt:=by
 intro pins s σ H D0 I ⟨ι,h,sd,L,hh,q⟩
 refine wpAny_Try_except ?_
 rw [hgt] at q
 let xe':Value->Shared->Prop:=fun e s₁=>wpAny (model X.prog X.w) X.A (noteFrame e X.env) (fun _ s₂=>wpAny (model X.prog X.w) X.A (setFlight e none) (fun _ s₃=>wpAny (model X.prog X.w) X.A (handleBy e X.env [.ExceptHandler (some (.Name ce pce)) (some en) [st] hp]) (SP X pins D0) X.xe s₃) X.xe s₂) X.xe s₁
 cases hres:gb sd h with
 | bad=>rw [hres] at q;exact False.elim q
 | ok o1 h1=>
  rw [hres] at q
  have run:=hb (X.pn++pins) xe'
   E0x (fun pins' σ' H1 s1 e s2 I1 hx=>by obtain ⟨a,C,H2,_,_,c,C',_,_,w⟩:=hx;exact w.elim) [] s σ H D0 (I.re _) ⟨ι,h,sd,L,hh,by rw [hres];exact q⟩
  refine qaK run (fun f s1 hs=> ?_) fun _ _ w=>w
  have hs':=hs.unre
  cases f with
  | next=>exact wpAny_execs_nil hs'
  | ret u=>exact hs'
  | brk=>exact hs'
  | cont=>exact hs'
 | exc c h1=>
  rw [hres] at q
  by_cases hk:known.contains c=true
  ·simp only [hk,if_true] at q
   have run:=hb (X.pn++pins) xe'
    (fun c' H'=>c'=c/\ ∃ ι',zbu ι H ι' H'/\za1 X.K ι' H' h1) (fun pins' σ' H1 s1 e s2 I1 hx=>by
      obtain ⟨a,C,H2,rfl,y,c',C',e1,hc,rfl,ι',st1,hr1⟩:=hx
      cases e1
      have z':zeJ (X.re (X.pn++pins) xe'):=⟨z.stk,z.frm,z.ex⟩
      obtain ⟨f1,f2,f3⟩:=y.fresh
      refine Fl.caught (X:=X.re (X.pn++pins) xe') (b₀:=st) (suite:=[]) (pce:=pce) (pos:=hp) (Q:=SP X pins D0) (E:=X.xe) z' I1 y hN hj hen hg hm (hkn c' (by simpa using hk) C hc) (fun s6 I6 ⟨head,x6⟩=> ?_) hd
      obtain ⟨o,vs,ho,ob⟩:=x6
      have hnil: ∀ b,b∉X.ex:=fun b h=>by rw [z.ex] at h;cases h
      refine hst _ pins' σ' H2 s6 a D0 sd (SP X pins D0) X.xe _ _ rfl I6 (L.1.trans I.len) (fun Qv hQ=> ?_) fun f s9 w=>w.unre
      have hσ:(σ'.set j (some (V.ref a)))[j]? = some (some (.ref a)):=qaf (by rw [I1.len];exact (qab.mp hj).1)
      refine zky (X:=X.re _ _) I6 f2 ho ob ?_ (fun w=> ?_) (fun x c e w=> ?_) (fun p hp w=> ?_) hj hσ hen FH hbk hgk hmk kp hr hc hr1 ?_ hd2 hd3
      · cases w:X.s₀.heap.get? a with
        | none=>exact w
        | some ob=>
          obtain ⟨o',e'⟩:=I1.base.there a ob w (hnil a)
          rw [f1] at e'
          cases e'
      · obtain ⟨m,⟨oL,_,_,hoL,_⟩,_⟩:=I1.loc
        have hoL:s1.heap.get? X.env.locals=some oL:=hoL
        rw [<- show a=X.env.locals from w,f1] at hoL
        cases hoL
      · obtain ⟨v,oc,hoc,_⟩:=I1.cell x c e
        rw [w,f1] at hoc
        cases hoc
      · have e:=(I1.pin p hp).1
        rw [w,f1] at e
        cases e
      · have q1:=Fin.step (st1.trans (hr1.laidS (o:= .frz o (.own 0)) f2)) q
        exact Fin.noX (Fin.bind q1 fun d h' ι8 H8 e8 s8 hr8 q8 v rv=>hQ d ι8 H8 h' hr8 q8 v rv))
    [] s σ H {nx:=fun _ _=>False,rt:=fun _ _=>False} (I.re _) ⟨ι,h,sd,L,hh,by rw [hres];exact fun ι' H' st1 hr1=>⟨rfl,ι',st1,hr1⟩⟩
   refine qaK run (fun f s1 hs=> ?_) fun _ _ w=>w
   cases f with
   | next=>obtain ⟨_,_,_,w⟩:=hs;exact w.elim
   | brk=>obtain ⟨_,_,_,w⟩:=hs;exact w.elim
   | cont=>obtain ⟨_,_,_,w⟩:=hs;exact w.elim
   | ret u=>obtain ⟨_,_,_,_,_,w⟩:=hs;exact w.elim
  ·simp only [hk] at q
   exact False.elim q
theorem zs9 (z:zeJ X) (hN:X.N.Nodup) (hj:X.N[j]? = some en) (hen:X.env.scope.names.lookup en=some .local) (hi:X.N[i]? = some x) (hx:X.env.scope.names.lookup x=some .local) (hij:j≠i) (hg:Gl X ce) (hm:X.mg ce=some (.ref CE))
  (hkn: ∀ c∈known, ∀ C,zca X.K c C->W.exmOne X.K (.ref C) (.ref CE)=some true)
  (hb: ∀ pn xe E',zc7 (CXE X.prog X.w) (X.re pn xe) (zqO X.K E')->SSs (X.re pn xe) E' body gb)
  (FH:FnH X.prog X.w X.K X.mg X.base k fk fdk [pe] (zcn X.K 1 Fk)) (hbk:zaF X.K fdk [pe] []) (hgk:Gl X gk) (hmk:X.mg gk=some (.ref fk)) (kp:W.keepIn X.K (.ref fk)=true) (hr:zc2 k X.A)
  (hd:(ce==("__debug__":Str))=false:=by decide) (hd2:(gk==("__debug__":Str))=false:=by decide) (hd3:(en==("__debug__":Str))=false:=by decide)
  (hs:swapsWith (.Call (.Name gk p1) [.Name en p2] [] p3) (some (.Name x p5)) p4.line X.env=pure false:=by rfl):
  SS X E (.Try body [.ExceptHandler (some (.Name ce pce)) (some en) [.Assign [.Name x p5] (.Call (.Name gk p1) [.Name en p2] [] p3) p4] hp] [] [] pos) (zly known gb i Fk):=by
 refine zn1 (fin:=fun sd d=>pure (.nx ((List.replicate sd.length none).set i (some d)))) (p1:=p1) (p2:=p2) (p3:=p3) (fun sd h=>rfl) z hN hj hen hg hm hkn hd hb (fun X' pins σ H s a D0 sd Q Ef pn xe hX I6 hl ev hQ=> ?_) FH hbk hgk hmk kp hr hd2 hd3
 subst hX
 refine wpAny_execs_cons ?_
 refine wpAny_Assign_Name (qaK (ev (fun v H'=> ∀ σ9:L2.St,σ9.length=X.N.length->σ9[i]? = some (some v)->D0.nx σ9 H') fun d ι' H' h' hr1 q v rv σ9 l9 e9=> ?_) (fun u s8 hv=> ?_) fun _ _ w=>w) hs
 ·have q1:=Fin.out hr1 q
  refine q1 σ9 ⟨by rw [qay,List.length_replicate,hl,l9],fun n d' e=> ?_⟩
  by_cases hn:i=n
  ·subst hn
   by_cases hlt:i<sd.length
   ·rw [qaf (by rw [List.length_replicate];exact hlt)] at e
    cases e
    exact ⟨v,e9,rv⟩
   ·rw [List.getElem?_eq_none (by rw [qay,List.length_replicate];omega)] at e
    cases e
  ·rw [qak hn,List.getElem?_replicate] at e
   split at e<;>cases e
 ·obtain ⟨v,H8,I8,rv,qv⟩:=hv
  refine zeq (X:=X.re pn xe) I8 hN hi (.inl hx) rv (fun s9 I9=> ?_) (.inr hx)
  refine wpAny_execs_nil ?_
  refine zpz (X:=X.re pn xe) I9 hN hj hen fun s10 I10=>hQ _ s10 ⟨_,H8,I10,qv _ ?_ ?_⟩
  ·exact I10.len
  ·rw [qak hij]
   exact qaf (by rw [qay];have:=I9.len;rw [qay,qay] at this;rw [this];exact (qab.mp hi).1)
noncomputable def zfy (c:String):FS:=fun _ h=> .exc c h
theorem zqB {c:String} {C:Addr} {nid:String} {msg:Str} {jj:Nat} {np cpos:Pos} (hc:X.calm=true) (hp:zqC X E) (hX:W.excIn X.K C zmu "ValueError.__new__"=true) (hcl:zca X.K c C) (hg:Gl X (c:Str)) (hd:((c:Str)==("__debug__":Str))=false:=by decide):
  SS X E (.Raise (some (.Call (.Name (c:Str) np) [.Constant (.str msg) jj p2] [] cpos)) none pos) (zfy c):=by
 intro pins s σ H D0 I ⟨ι,h,sd,L,hh,q⟩
 have hE:E c H:=q ι H (zbu.refl _ _) hh
 have hm:X.mg (c:Str)=some (.ref C):=W.mg_of I.ok.mod.kin I.ok.mod.glob hcl
 obtain ⟨tl,N,nm,qq,bs,hdct,sn,sub,ab,col,dd,k0,k1,k2,k3,k5,mN,hC,hNs,hni,T⟩:=(zqN (x:=(c:Str)) I.ok.mod.kin hm hX).obj
 refine wpAny_Raise_call_subT (C:=C) (nm:=nm) (q:=qq) (N:=N) (bs:=bs) (bm:=tl) (hdct:=hdct) (sn:=sn) (sub:=sub) (ab:=ab) (col:=col) (dd:=dd) (k0:=k0) (k1:=k1) (k2:=k2) (k3:=k3) (k5:=k5)
  PySem.F.excBase_ValueError (mN:=mN) (T.hasType PySem.F.excBase_ValueError.hasBase) (I.ok.hd hc) rfl hni (zh2 I hg hm ⟨rfl,?_⟩ hd)
 refine Calls.evalArgs_plain (x:=eval (.Constant (.str msg) jj p2) X.env) (rest:=[]) ?_
 refine Calls.spliced_cons (thn (zoF pins s σ H (fun v H1=>H1=H) I rfl) fun u s1 hu=> ?_)
 obtain ⟨v,H1,I1,rv,rfl⟩:=hu
 refine Calls.spliced_nil ⟨rfl,by show 1<=sizeLine;decide,I1.bk _ _ hC,hNs.keeps I1.bk,T.keeps I1.bk,fun h' e m=> ?_⟩
 exact hp pins σ H1 s1 h' e C c _ I1 hcl m hE
end
end L3
namespace L3
open PySem PySem.W
theorem zht {K:Frag} {C:Addr} {name:Str} {a g:Value} (hc:(clsIn K C).isSome=true) (ha:findIn K (.ref C) name=some (some a)) (hg:specialIn K a "__get__"=some (some g)) (ht:takesIn K a=some true):findObj K C none name=some (.bind g a):=by
 obtain ⟨cd,hc⟩:=Option.isSome_iff_exists.mp hc
 unfold findObj
 rw [hc,Option.bind_some,ha,Option.bind_some]
 simp [hg,ht]
section
variable {prog:Program} {w:World} {A:Around} {E:Value->Shared->Prop} {s:Shared} {K:Frag} {x D:Addr} {ox:Obj}
theorem zkP {Q:Option Value->Shared->Prop} (X:K.In s.heap) (I:InstAt s.heap x ox D none) (hc:(clsIn K D).isSome=true) (hga:findIn K (.ref D) "__getattribute__"=some (some (.builtin "BaseException.__getattribute__"))) (hk:findIn K (.ref D) "__getattr__"=some none)
  (ha:findIn K (.ref D) "__class__"=some (some (.builtin "object.__class__"))) (hn:specialIn K (.builtin "object.__class__") "__get__"=some (some (.builtin "getset_descriptor.__get__"))) (htk:takesIn K (.builtin "object.__class__")=some true)
  (hm:mroIn K D (.type "object")=some true) (hmB:mroIn K D (.type "BaseException")=some true) (h:Q (some (.ref D)) {s with toks:=s.toks+1}):wpAny (model prog w) A (getAttr? (.ref x) "__class__") Q E s:=by
 obtain ⟨hh,g,d,t,os⟩:=s
 have L0:=I.type (M:=model prog w)
 have L1:=looks_findIn (M:=model prog w) X hga
 have L2:=looks_findIn (M:=model prog w) X hk
 have L3:=looks_find (M:=model prog w) X I (zht hc ha hn htk)
 have LB:Looks (model prog w) hh (isInstance (.ref x) (.type "BaseException")) true:=L0.andThen (looks_mroIn X hmB)
 have f3:=PySem.F.attr_ValueError.ga.bind (.ref x)
 have hx2:(Value.builtin "BaseException.__getattribute__"==Value.builtin "object.__getattribute__")=false:=by decide +kernel
 unfold getAttr? getAttrBy? getAttrBy
 refine qaH (wpAny_mkText (qaH (wpAny_attempt (qaB (qaH (L0.at (qaH (L1.at ?_))))))))
 dsimp only
 rw [hx2,Bool.and_false,if_neg Bool.false_ne_true]
 unfold getAttrByItsOwn hookBefore
 rw [if_pos (show onTheHeap (Value.ref D)=true from rfl)]
 refine qaH (L2.at ?_)
 refine qaH (wpAny_attempt (qaB ?_))
 unfold callGetattribute
 rw [if_neg (by simp)]
 unfold boundAndCalled
 rw [f3]
 refine qaH (qaI ?_)
 refine wpAny_call (codeAny_call_builtin PySem.F.attr_ValueError.ga.plain PySem.F.entry_bexc_ga ?_)
 have kd:builtinKind "BaseException.__getattribute__"=some .slot:=by decide +kernel
 have sp:splitId "BaseException.__getattribute__"=some ("BaseException","__getattribute__"):=by decide +kernel
 have ag:=PySem.F.args_bexc_ga (.ref x) (.str "__class__" t)
 simp only [checkBuiltinCall,kd,sp]
 refine qaH (LB.at ?_)
 rw [if_neg (by decide)]
 refine wpAny_of_eq (a:=()) ag ?_
 unfold Builtin.«object.__getattribute__»
 refine qaH (qaI ?_)
 refine qaH (qaI ?_)
 refine qaH (L0.at ?_)
 refine qaH (L3.at ?_)
 dsimp only
 unfold Builtin.ObjectAttr.bindTo
 dsimp only
 refine qaH (qaB (wpAny_call (class_get (s:=⟨hh,g,d,t+1,os⟩) X I hm ?_)))
 refine qaI ?_
 dsimp only
 refine wpAny_of_eq (a:=Value.ref D) rfl ?_
 exact qaI h
end
end L3
namespace L3
open PySem PySem.Spec PyProof.Rows L2
noncomputable def kxb (K:W.Frag) (C:Addr):Bool:=(W.clsIn K C).isSome && W.findIn K (.ref C) "__getattribute__"==some (some (.builtin "BaseException.__getattribute__")) && W.findIn K (.ref C) "__getattr__"==some none && W.findIn K (.ref C) "__class__"==some (some (.builtin "object.__class__"))
 && W.specialIn K (.builtin "object.__class__") "__get__"==some (some (.builtin "getset_descriptor.__get__")) && W.takesIn K (.builtin "object.__class__")==some true && W.mroIn K C (.type "object")==some true && W.mroIn K C (.type "BaseException")==some true
theorem znX {K:W.Frag} {x C:Addr} {ox:Obj} (h:kxb K C=true):W.KitX K (.ref x) (.ref C) (fun h=>W.InstAt h x ox C none):=by
 unfold kxb at h
 simp only [Bool.and_eq_true,beq_iff_eq] at h
 obtain ⟨⟨⟨⟨⟨⟨⟨h1,h2⟩,h3⟩,h4⟩,h5⟩,h6⟩,h7⟩,h8⟩:=h
 refine ⟨fun _ _ _ I=>I.type,fun M hp X _=> ?_,fun hp tp dd its n sl X htp=> ?_,fun X I k=>zkP X I h1 h2 h3 h4 h5 h6 h7 h8 k⟩
 ·obtain ⟨cd,hc⟩:=Option.isSome_iff_exists.mp h1
  unfold W.clsIn at hc
  split at hc
  ·rename_i lk
   intro A' Q' E' s' k q
   unfold isType loadHead
   exact qaH (wpAny_loadPart (k _ _ (X _ _ lk)) (qaI q))
  ·cases hc
 ·refine Bool.eq_false_iff.mpr fun q=> ?_
  have e:C=tp:=Value.ref.inj (beq_iff_eq.mp q)
  subst e
  obtain ⟨cd,hc⟩:=Option.isSome_iff_exists.mp h1
  unfold W.clsIn at hc
  split at hc
  ·rename_i lk
   have z:=(X _ _ lk).symm.trans htp
   cases z
  ·cases hc
structure zt1 (K:W.Frag) (CE:Addr) (names:List String) (c:String) (C:Addr):Prop where
 exc:W.excIn K C zmu "ValueError.__new__"=true
 cov:W.exmOne K (.ref C) (.ref CE)=some true
 kx:kxb K C=true
 ve:W.kitOne K (.ref C) (.type "ValueError")=some true
 one: ∀ c'∈names, ∀ C',zca K c' C'->W.kitOne K (.ref C) (.ref C')=some (c==c')
noncomputable def znA (K:W.Frag) (CE:Addr) (names:List String):Prop:= ∀ c∈names, ∀ C,zca K c C->zt1 K CE names c C
noncomputable def zl3 (K:W.Frag) (CE:Addr) (tab:List (String×Addr)):Bool:=tab.all fun p=>W.nsIn K mainGlobals (p.1:Str)==some (some (.ref p.2)) && W.excIn K p.2 zmu "ValueError.__new__" && W.exmOne K (.ref p.2) (.ref CE)==some true && kxb K p.2 && W.kitOne K (.ref p.2) (.type "ValueError")==some true
 && tab.all fun r=>W.kitOne K (.ref p.2) (.ref r.2)==some (p.1==r.1)
theorem znA.of {K:W.Frag} {CE:Addr} {tab:List (String×Addr)} (h:zl3 K CE tab=true):znA K CE (tab.map (·.1)):=by
 unfold zl3 at h
 rw [List.all_eq_true] at h
 have key: ∀ c∈tab.map (·.1), ∀ C,zca K c C->(c,C)∈tab:=fun c hc C hC=>by
  obtain ⟨p,hp,rfl⟩:=List.mem_map.mp hc
  have h1:=h p hp
  simp only [Bool.and_eq_true,beq_iff_eq] at h1
  have e:=h1.1.1.1.1.1
  unfold zca at hC
  rw [hC] at e
  cases e
  exact hp
 intro c hc C hC
 have h1:=h _ (key c hc C hC)
 simp only [Bool.and_eq_true,beq_iff_eq,List.all_eq_true] at h1
 obtain ⟨⟨⟨⟨⟨a1,a2⟩,a3⟩,a4⟩,a5⟩,a6⟩:=h1
 exact ⟨a2,a3,a4,a5,fun c' hc' C' hC'=>a6 _ (key c' hc' C' hC')⟩
theorem znA.known {K:W.Frag} {CE:Addr} {names:List String} (h:znA K CE names): ∀ c∈names, ∀ C,zca K c C->W.exmOne K (.ref C) (.ref CE)=some true:=fun c hc C hC=>(h c hc C hC).cov
noncomputable def zov (names:List String) (T:String):D->M D
 | .exn c=>if names.contains c && names.contains T then pure (.bl (c==T)) else M.bad
 | _=>M.bad
section
variable {X:Cx} {E:XE}
theorem zmK:zay X (.builtin "isinstance") (fun xs H Q=> ∃ a o C vs x u b,xs=[.ref a,x]/\H a=some (.frz o (.own 0))/\(o.cls= .ref C/\o.dict=none/\o.data= .fields vs)/\kxb X.K C=true/\zbj x u/\(∀ u',zbj x u'->u'=u)/\W.kitOne X.K (.ref C) u=some b/\Q (.bl b) H):=by
 intro pins s σ H xs us Q I r h
 obtain ⟨a,o,C,vs,x,u,b,rfl,hH,⟨o1,o2,o3⟩,hk,hu,hu2,e,q⟩:=h
 cases r with
 | cons r1 r2=>
  cases r2 with
  | cons r3 r4=>
   cases r4
   cases r1
   have:=hu2 _ r3
   subst this
   have ho:=(I.hok a _ hH).1
   refine W.kia_one (znX (x:=a) (ox:=o) hk) I.kIn ⟨ho,o1,by unfold W.notCls;rw [o3],by rw [o2];trivial⟩ e (fun z=>nomatch z) fun tk=>⟨.bl b,H,I.tok tk,rfl,q⟩
variable {a:Expr} {p1 p2 pos:Pos} {fa:FE} {CE CC:Addr} {names:List String}
theorem zhM {c':String} (hx:znA X.K CE names) (hc':names.contains c'=true) (hcl:zca X.K c' CC) (hm:X.mg "isinstance"=none) (hmC:X.mg (c':Str)=some (.ref CC)) (ha:SE X E a fa) (hg:Gl X "isinstance":=by rfl) (hgC:Gl X (c':Str):=by rfl)
  (hd:((c':Str)==("__debug__":Str))=false:=by decide)
  (h1:starEach [a,.Name (c':Str) p2] X.env=(false,eval a X.env)::starEach [.Name (c':Str) p2] X.env:=by rfl) (h2:starEach [.Name (c':Str) p2] X.env=[(false,eval (.Name (c':Str) p2) X.env)]:=by rfl)
  (hpl:(backTo pos (starEach [.Name (c':Str) p2] X.env)).any (·.1)=false:=by rfl):
  SE X E (.Call (.Name "isinstance" p1) [a,.Name (c':Str) p2] [] pos) (cUn (zov names c') fa):=by
 refine PE.imp (zep zmK hg hm PyProof.Rows.boot_isinstance (zbK ha (zbK (zpQ (v:= .ref CC) hgC hmC rfl hd) zdc h2) h1) (he:=h1) (hpl:=hpl)) fun σ H Q ⟨ι,h,sd,L,hh,q⟩=>⟨ι,h,sd,L,hh,Fin.bind q fun d h1 ι1 H1 e1 s1 hr1 q1 v rv=> ?_⟩
 cases d with
 | exn c=>
  obtain ⟨hg1,q2⟩:=Fin.guard (show Fin X.K E ι1 H1 ((if (names.contains c && names.contains c')=true then (pure (.bl (c==c')):M D) else M.bad) h1) _ from q1)
  rw [Bool.and_eq_true] at hg1
  simp only [Rel] at rv
  obtain ⟨b,o,C,head,vs,rfl,⟨r1,_⟩,r2,r3,r4,r5,_⟩:=rv
  have ok:=hx c (by simpa using hg1.1) C r2
  exact ⟨b,o,C,vs,.ref CC,.ref CC,c==c',rfl,r1,⟨r3,r4,r5⟩,ok.kx,rfl,fun u' z=>z,ok.one c' (by simpa using hc') CC hcl,Fin.out hr1 q2 _ (by simp [Rel])⟩
 | _=>exact False.elim q1
end
end L3
namespace L3
open PySem
section
variable {prog:Program} {w:World} {A:Around} {E:Value->Shared->Prop} {s:Shared}
end
end L3
namespace L2
open PySem PySem.Spec PyProof.Rows L3
section
variable {X:Cx}
theorem zjV:MtM X "list.extend" (fun x vs H Q=> ∃ l b xs zs,x= .ref l/\vs=[.ref b]/\H l=some (.lst xs)/\SqT X.K H b zs/\xs.length+zs.length<=sizeLine/\Q .non (upd H l (.lst (xs++zs)))):=by
 intro pins s σ H x vs v us Q I rx rv h
 obtain ⟨l,b,xs,zs,rfl,rfl,hH,hB,hz,q⟩:=h
 cases rx
 obtain ⟨u,rfl,ru⟩:=zdp rv
 cases ru
 obtain ⟨z,its,n,r,hl,e⟩:=I.lstM hH
 obtain ⟨its2,r2,⟨ob,e2,c2,n2,d2⟩,z2⟩:=I.tuple hB
 have l2:=r2.length
 have hsz:its.toArray.size+its2.toArray.size<=sizeLine:=by rw [qar,qar];omega
 refine wpAny_call (codeAny_call_builtin F.slot_list_extend.plain F.entry_list_extend (F.slot_list_extend.check _ _ _ _ _ _ _ _ ⟨_,e,rfl⟩ (F.args_list_extend_2 _ _) ?_))
 unfold Builtin.«list.extend»
 refine qaH (qaI ?_)
 unfold Builtin.List.listExtendWith
 refine qaH (wpAny_typeOf ⟨ob,e2,c2⟩ ?_)
 have h1:(Builtin.List.listSameRef (.ref l) (.ref b) || Value.type "tuple"==Value.type "list" || Value.type "tuple"==Value.type "tuple")=true:=by simp
 simp only [h1,if_true]
 unfold Builtin.List.listItems
 refine qaH (qaH (wpAny_seqItems e2 d2 (qaI ?_)))
 refine qaH (qaH (wpAny_seqItems e rfl (qaI ?_)))
 rw [if_neg (by rw [ziS hsz,Bool.and_false];exact Bool.false_ne_true)]
 refine qaH (wpAny_updateSeq e rfl ?_ (by rw [qar];omega))
 refine qaI ?_
 refine ⟨.non,_,I.lset (its':=its++its2) hH e (by simp) (r.append r2) ?_,rfl,q⟩
 rw [qao]
 omega
theorem zfK: ∀ {bs:List Bool} {its:List Value},zaV (bs.map V.bl) its->its=bs.map Value.bool
 | [],_,h=>by cases h;rfl
 | b::bs,_,h=>by
  cases h with
  | cons r t=>cases r;rw [zfK t];rfl
theorem zk4:MtR X "list.index" (fun x vs H Q=> ∃ (l:Addr) (bs:List Bool) (j:Nat),x= .ref l/\vs=[.bl true]/\SqL X.K H l (bs.map V.bl)/\bs[j]? = some true/\(∀ m,m<j->bs[m]? = some false)/\Q (.int (j:Int)) H):=by
 intro pins s σ H x vs v us Q I rx rv h
 obtain ⟨l,bs,j,rfl,rfl,hq,hj,hno,q⟩:=h
 cases rx
 obtain ⟨u,rfl,ru⟩:=zdp rv
 cases ru
 obtain ⟨its,r,pl,hz⟩:=I.list hq
 have eit:=zfK r
 subst eit
 obtain ⟨ob,e1,c1,n1,d1⟩:=pl.isList
 obtain ⟨cc,dd,dt,sl⟩:=ob
 dsimp only at c1 d1
 subst c1 d1
 have hlt:j<bs.length:=(qab.mp hj).1
 rw [qax] at hz
 have sz:(j:Int)<2^63 - 1:=by
  have:sizeLine<2^40:=by decide
  omega
 refine call_meets F.slot_list_index ⟨_,e1,rfl⟩ F.entry_list_index (F.args_list_index_2 _ _)
  (PySem.SeqAt.list_indexAt l _ n1 dd sl (.bool true) (fun v=>match v with | .bool b=>b | _=>false) j (by simpa using hlt) sz ?_ ?_) ⟨e1,fun y hy=> ?_,⟨.int j,H,I.tok _,⟨_,rfl⟩,q⟩⟩
 ·have:=(qab.mp hj).2
  simp [this]
 ·intro m hm hmj
  have:=(qab.mp (hno m hmj)).2
  simp [this]
 ·obtain ⟨b,_,rfl⟩:=List.mem_map.mp (List.mem_toArray.mp hy)
  have:=PySem.SeqAt.EqAt.bool_bool (A:=X.A.in1) (s:=s) b true
  simpa using this
end
end L2
namespace L3
open PySem PySem.Spec PyProof.Rows L2
noncomputable def zvx (f:FE):FE:=fun sd=>noX (f sd)
noncomputable def zuZ (f:FS):FS:=fun sd=>noX (f sd)
theorem zhQ {X:Cx}:zc7 (CXE X.prog X.w) X (zqO X.K E0x):=fun _ _ _ _ _ _ _ h=>by
 obtain ⟨_,_,_,_,_,_,_,_,_,z⟩:=h
 exact z.elim
section
variable {X:Cx} {E:XE} {a e o:Expr} {es:List Expr} {pos p cpos apos:Pos} {f fo fe fa:FE} {fs:FA} {x:Str}
theorem zbq {k:Nat} {g:Addr} {fd:FuncData} {ps:List Str} {n:Nat} {F:List D->M D} (G:zbG X.prog X.w X.K X.mg X.base (CXE X.prog X.w) k g fd ps (spE X.K n F)) (hx:zc7 (CXE X.prog X.w) X (zqO X.K E)) (hr:zda k X.A) (hm:X.mg x=some (.ref g)) (hk:W.keepIn X.K (.ref g)=true) (hb:zaF X.K fd ps [])
  (ha:SA X E (e::es) fs) (hg:Gl X x:=by rfl) (hdb:(x==("__debug__":Str))=false:=by decide) (he:starEach (e::es) X.env=(false,eval e X.env)::starEach es X.env:=by rfl) (hpl:(backTo pos (starEach es X.env)).any (·.1)=false:=by rfl):
  SE X E (.Call (.Name x p) (e::es) [] pos) (zaC (zat n F) fs):=znR G hx hr hg hm hk hb ha hdb he hpl
theorem zfZ {k:Nat} {g:Addr} {fd:FuncData} {ps:List Str} {n:Nat} {F:List D->M D} (G:zbG X.prog X.w X.K X.mg X.base CX0 k g fd ps (zcn X.K n F)) (hr:zda k X.A) (hm:X.mg x=some (.ref g)) (hk:W.keepIn X.K (.ref g)=true) (hb:zaF X.K fd ps [])
  (ha:SA X E (e::es) fs) (hg:Gl X x:=by rfl) (hdb:(x==("__debug__":Str))=false:=by decide) (he:starEach (e::es) X.env=(false,eval e X.env)::starEach es X.env:=by rfl) (hpl:(backTo pos (starEach es X.env)).any (·.1)=false:=by rfl):
  SE X E (.Call (.Name x p) (e::es) [] pos) (zaC (zat n fun ds=>noX (F ds)) fs):=znm G hr hg hm hk hb ha hdb he hpl
theorem ztn {st:Stmt} {g:FS} (h:SS X.nox E0x st g):SS X E st (zuZ g):=by
 intro pins s σ H D0 I ⟨ι,h2,sd,L,hh,q⟩
 exact qaK (h pins s σ H D0 (I.wish _) ⟨ι,h2,sd,L,hh,Fin.noX q⟩) (fun _ _ q=>q.unwish) fun _ _ z=>False.elim z
theorem zii {c:String} {C CE:Addr} {names:List String} {msg:Str} {jj:Nat} {np p2:Pos} (hc:X.calm=true) (hp:zqC X E) (hX:znA X.K CE names) (hn:names.contains c=true) (hcl:zca X.K c C) (hg:Gl X (c:Str):=by rfl) (hd:((c:Str)==("__debug__":Str))=false:=by decide):
  SS X E (.Raise (some (.Call (.Name (c:Str) np) [.Constant (.str msg) jj p2] [] cpos)) none pos) (zfy c):=zqB (nid:="") hc hp (hX c (by simpa using hn) C hcl).exc hcl hg hd
noncomputable def zsw:D->M D
 | .lst ds=>do
  let bs<-ofO (zlx ds)
  let j<-ofO (bs.findIdx? id)
  pure (.int j)
 | _=>M.bad
theorem zo5 {jj:Nat} {p2:Pos} (ho:SE X E o fo)
  (hbase:attributeBase o "index" X.env (eval o X.env)=eval o X.env:=by rfl)
  (hfew:((backTo cpos (starEach [.Constant (.bool true) jj p2] X.env)).all (fun x=> !x.1) && (backToKw cpos (keywordEach [] X.env)).all (fun x=>x.1.isSome)
    && decide (([.Constant (.bool true) jj p2]:List Expr).length+([]:List Keyword).length+(if ([]:List Keyword).isEmpty then 0 else 1)<30))=true:=by rfl)
  (hline:(apos.endLine==cpos.line)=true:=by rfl) (hs:starEach [.Constant (.bool true) jj p2] X.env=(false,eval (.Constant (.bool true) jj p2) X.env)::starEach [] X.env:=by rfl) (hplain:(backTo cpos (starEach [] X.env)).any (·.1)=false:=by rfl):
  SE X E (.Call (.Attribute o "index" apos) [.Constant (.bool true) jj p2] [] cpos) (cUn zsw fo):=by
 refine PE.imp (zph PySem.F.plainAttrs_list PySem.F.slot_list_index PySem.F.type_list_index zk4 ho (zbK zrO zdc hs) hbase hfew hline hs hplain) fun σ H Q ⟨ι,h,sd,L,hh,q⟩=>⟨ι,h,sd,L,hh,Fin.bind q fun d h1 ι1 H1 e1 s1 hr1 q1 v rv=> ?_⟩
 cases d with
 | lst ds=>
  obtain ⟨a,vs,e',h1',h2⟩:=zc4 rv
  obtain ⟨bs,en,q2⟩:=Fin.ofOb q1
  obtain ⟨j,ej,q3⟩:=Fin.ofOb q2
  have:=zev h2 en
  subst this
  subst e'
  refine ⟨.inl ⟨rfl,_,h1'⟩,a,bs,j,rfl,rfl,h1',?_,fun m hm=> ?_,Fin.out hr1 q3 _ (by simp [Rel])⟩
  ·obtain ⟨h3,h4,_⟩:=List.findIdx?_eq_some_iff_getElem.mp ej
   rw [List.getElem?_eq_getElem h3]
   simpa using h4
  ·obtain ⟨h3,h4,h5⟩:=List.findIdx?_eq_some_iff_getElem.mp ej
   rw [List.getElem?_eq_getElem (by omega)]
   simpa using h5 m hm
 | _=>exact False.elim q1
noncomputable def zdh (x y:D):M D:=match x,y with
 | .cel n,.tup zs=>do
  let ds<-zaj n
  fits (ds.length+zs.length)
  zby n (ds++zs)
  pure .non
 | _,_=>M.bad
noncomputable def zig (fo fe:FE):FE:=fun sd=>do
 let x<-fo sd
 zdb x
 let y<-fe sd
 zdh x y
theorem zne (ho:SE X E o fo) (he:SE X E e fe)
  (hbase:attributeBase o "extend" X.env (eval o X.env)=eval o X.env:=by rfl)
  (hfew:((backTo cpos (starEach [e] X.env)).all (fun x=> !x.1) && (backToKw cpos (keywordEach [] X.env)).all (fun x=>x.1.isSome)
    && decide (([e]:List Expr).length+([]:List Keyword).length+(if ([]:List Keyword).isEmpty then 0 else 1)<30))=true:=by rfl)
  (hline:(apos.endLine==cpos.line)=true:=by rfl) (hs:starEach [e] X.env=(false,eval e X.env)::starEach [] X.env:=by rfl) (hplain:(backTo cpos (starEach [] X.env)).any (·.1)=false:=by rfl):
  SE X E (.Call (.Attribute o "extend" apos) [e] [] cpos) (zig fo fe):=by
 refine PE.imp (zph PySem.F.plainAttrs_list PySem.F.slot_list_extend PySem.F.type_list_extend zjV ho (zbK he zdc hs) hbase hfew hline hs hplain) fun σ H Q ⟨ι,h,sd,L,hh,q⟩=>⟨ι,h,sd,L,hh,Fin.bind q fun d h1 ι1 H1 e1 s1 hr1 q1 v rv=> ?_⟩
 cases d with
 | cel n=>
  have q2:Fin X.K E ι1 H1 ((zaj n>>=fun _=>fe sd>>=fun y=>zdh (.cel n) y) h1) (fun d ι' H'=> ∀ v,Rel X.K ι' H' d v->Q v H'):=by
   have ee:(zdb (.cel n)>>=fun _=>fe sd>>=fun y=>zdh (.cel n) y:M D)=(zaj n>>=fun _=>fe sd>>=fun y=>zdh (.cel n) y):=by
    show ((zaj n>>=fun _=>pure ())>>=fun _=>fe sd>>=fun y=>zdh (.cel n) y)=_
    simp only [bind_assoc,pure_bind]
   rw [<- ee]
   exact q1
  obtain ⟨ds,e2,q3⟩:=zf6 q2
  obtain ⟨a,vs,rfl,hn,hH,rl⟩:=hr1.read rv e2
  refine ⟨.inl ⟨rfl,vs,SqL.of hH⟩,ι1,h1,sd,L.step s1,hr1,Fin.bind q3 fun y h3 ι3 H3 e3 s3 hr3 q4 w rw'=> ?_⟩
  have rv3:=rv.step s3
  cases y with
  | tup zs=>
   have q5:Fin X.K E ι3 H3 ((zaj n>>=fun ds=>fits (ds.length+zs.length)>>=fun _=>zby n (ds++zs)>>=fun _=>pure D.non) h3) (fun d ι' H'=> ∀ v,Rel X.K ι' H' d v->Q v H'):=q4
   obtain ⟨ds3,e4,q6⟩:=zf6 q5
   obtain ⟨a3,vs3,ea,hn3,hH3,rl3⟩:=hr3.read rv3 e4
   cases ea
   obtain ⟨b,ws,eb,hb,rlb⟩:=zcm rw'
   obtain ⟨z,q7⟩:=Fin.fits q6
   refine ⟨a,b,vs3,ws,rfl,by rw [eb],hH3,hb,by rw [<- rl3.length, <-rlb.length];exact z,?_⟩
   have q8:Fin X.K E ι3 H3 (R.ok D.non (h3.set n (.lst (ds3++zs)))) (fun d ι' H'=> ∀ v,Rel X.K ι' H' d v->Q v H'):=q7
   exact q8 ι3 _ (hr3.cellS hn3) (hr3.cell hn3 (rl3.append rlb)) _ (by simp [Rel])
  | _=>exact False.elim q4
 | _=>exact False.elim q1
end
section
variable {P:Program} {w:World} {K:W.Frag} {mg:Str->Option Value} {base:Heap}
theorem zsc {x qual:Str} {st:Stmt} {f:Addr} {fd:FuncData} {N ps:List Str} {k:Nat} {G:Sd->M Out} (F:Fun K x qual st f fd) (S:zas N ps (zae st))
  (hb: ∀ (cdv:Value) (A:Around) (outer:List Env) (s:Shared) (H:Hp),zc2 k (A.deeper (envOfC qual (zae st) s.heap.objs.size f cdv))->SSs ({zhC CX0 P w K mg base N qual (zae st) f cdv A outer s H E0 with calm:=false}:Cx).nox E0x (zcf st) G):
  FnH P w K mg base (k+1) f fd ps (zcn K ps.length (zcZ N.length G)):=by
 obtain ⟨oc,od,kV,doc,pm,an,cdv,ct,osl,rfl,lk,hcd⟩:=F.ex
 refine zrB lk hcd S (fun vs H Q E h=>h.1) fun A outer s H vs Q hr ⟨hl,ι,h,ds,rl,hh,q⟩=>⟨_,hb cdv A outer s H hr,ι,h,zfC N.length ds,zdT rl,hh,?_⟩
 refine Fin.bind q fun o h1 ι1 H1 e1 s1 hr1 q1=> ?_
 cases o with
 | nx sd=>exact fun σ' _=>Fin.out hr1 q1 _ (by simp [Rel])
 | rt d=>exact fun v rv=>Fin.out hr1 q1 v rv
 | bk sd=>exact False.elim q1
 | ct sd=>exact False.elim q1
end
section
variable {X:Cx} {E:XE} {body:List Stmt} {ce en gk pe x:Str} {pce p1 p2 p3 p4 p5 hp pos:Pos} {CE fk:Addr} {fdk:FuncData} {Fk:List D->M D} {gb:FS} {k:Nat} {known:List String}
theorem zsV (j i:Nat) (z:zeJ X) (hN:X.N.Nodup) (hm:X.mg ce=some (.ref CE)) (hkn:znA X.K CE known)
  (FH:FnH X.prog X.w X.K X.mg X.base k fk fdk [pe] (zcn X.K 1 Fk)) (hbk:zaF X.K fdk [pe] []) (hmk:X.mg gk=some (.ref fk)) (kp:W.keepIn X.K (.ref fk)=true) (hr:zc2 k X.A)
  (hb: ∀ pn xe E',zc7 (CXE X.prog X.w) (X.re pn xe) (zqO X.K E')->SSs (X.re pn xe) E' body gb) (hij:j≠i:=by decide)
  (hj:X.N[j]? = some en:=by rfl) (hen:X.env.scope.names.lookup en=some .local:=by rfl) (hi:X.N[i]? = some x:=by rfl) (hx:X.env.scope.names.lookup x=some .local:=by rfl) (hg:Gl X ce:=by rfl) (hgk:Gl X gk:=by rfl)
  (hd:(ce==("__debug__":Str))=false:=by decide) (hd2:(gk==("__debug__":Str))=false:=by decide) (hd3:(en==("__debug__":Str))=false:=by decide)
  (hs:swapsWith (.Call (.Name gk p1) [.Name en p2] [] p3) (some (.Name x p5)) p4.line X.env=pure false:=by rfl):
  SS X E (.Try body [.ExceptHandler (some (.Name ce pce)) (some en) [.Assign [.Name x p5] (.Call (.Name gk p1) [.Name en p2] [] p3) p4] hp] [] [] pos) (zly known gb i Fk):=zs9 z hN hj hen hi hx hij hg hm hkn.known hb FH hbk hgk hmk kp hr hd hd2 hd3 hs
end
noncomputable def zrN (Fs:List (List D->M D)) (i:D):M (List D->M D):=match i with
 | .int j=>(match ixN Fs.length j with
   | some m=>ofO Fs[m]?
   | none=>M.bad)
 | _=>M.bad
noncomputable def zt8 (n:Nat) (Fs:List (List D->M D)) (fi:FE) (fs:FA):FE:=fun sd=>do
 let i<-fi sd
 let F<-zrN Fs i
 let ds<-fs sd
 zat n F ds
structure Fns (X:Cx) (n:Nat) (addrs:List Addr) (Fs:List (List D->M D)):Prop where
 len:Fs.length=addrs.length
 ok: ∀ (m:Nat) (F:List D->M D) (a:Addr),Fs[m]? = some F->addrs[m]? = some a-> ∃ k fd ps,zbG X.prog X.w X.K X.mg X.base (CXE X.prog X.w) k a fd ps (spE X.K n F)/\zda k X.A/\W.keepIn X.K (.ref a)=true/\zaF X.K fd ps []
theorem Fns.nil {X:Cx} {n:Nat}:Fns X n [] []:=⟨rfl,fun m F a h=>by simp at h⟩
theorem Fns.cons {X:Cx} {n k:Nat} {a:Addr} {F:List D->M D} {addrs:List Addr} {Fs:List (List D->M D)} {fd:FuncData} {ps:List Str} (G:zbG X.prog X.w X.K X.mg X.base (CXE X.prog X.w) k a fd ps (spE X.K n F)) (hr:zda k X.A) (hk:W.keepIn X.K (.ref a)=true) (hb:zaF X.K fd ps []) (h:Fns X n addrs Fs):Fns X n (a::addrs) (F::Fs):=by
 refine ⟨by simp [h.len],fun m F' a' h1 h2=> ?_⟩
 cases m with
 | zero=>simp at h1 h2;subst h1 h2;exact ⟨k,fd,ps,G,hr,hk,hb⟩
 | succ m=>simp at h1 h2;exact h.ok m F' a' h1 h2
section
variable {X:Cx} {E:XE} {e ix:Expr} {es fes:List Expr} {pos p q3 q4:Pos} {fi:FE} {fs:FA} {x:Str}
end
end L3
namespace L2
open PySem PySem.Spec PyProof.Rows
noncomputable def Itd (lo:Int) (n:Nat):It:=⟨fun i _=>i<n,fun i H x H'=>H'=H/\x= .int (lo - i),fun i _=>n<=i⟩
theorem zko {P:Program} {w:World} {K:W.Frag} {tg:Expr} (it:Addr) (lo:Int) (n:Nat):zq2 P w K tg (Itd lo n) [it] it (fun i h=>IsRangeIter h it (lo - (i:Nat)) ((n:Int) - (i:Nat)) (-1)) where
 mem:=by simp
 obj:=fun i h st b hb=>by
  have e:b=it:=by simpa using hb
  subst e
  exact ⟨_,st,fun v z=>by
    have z':Data.fields _=Data.cell v:=z
    cases z'⟩
 keep:=fun i h h' st k=>k it (by simp) _ st
 item:=by
  intro X hP hw hK i pins s σ H E I hf st hg
  subst hP hw hK
  obtain ⟨f0,f1,f2,f3,f4,f5⟩:=hf it (by simp)
  refine wpAny_pyNext_range_item st (by have:i<n:=hg;omega) fun h' st' kk=> ?_
  have e1:lo - (i:Nat)+ -1=lo - ((i+1:Nat):Int):=by omega
  have e2:(n:Int) - (i:Nat) - 1=(n:Int) - ((i+1:Nat):Int):=by omega
  rw [e1,e2] at st'
  have I1:Inv X pins σ H {s with heap:=h',toks:=s.toks+1}:=I.turned (fun b o hb e=>(kk.2 b hb).trans e) f0 f1 f3 f4 f5
  exact ⟨_,rfl,znk (s:={s with heap:=h',toks:=s.toks+1}) (n:="range_iterator") st' rfl rfl (by decide) ⟨.int (lo - i),H,I1,⟨s.toks,rfl⟩,⟨rfl,rfl⟩,st',fun b hb=>(hf b hb).1⟩⟩
 done:=by
  intro X hP hw hK i pins s σ H E I hf st hg
  subst hP hw hK
  obtain ⟨f0,f1,f2,f3,f4,f5⟩:=hf it (by simp)
  exact L3.zhA I.hand st (by have:n<=i:=hg;omega) fun h' eb=>⟨rfl,I.turned (t':=s.toks) (fun b o hb e=>eb b o hb e) f0 f1 f3 f4 f5⟩
 self:=fun _ _ _ _ _ st h=>wpAny_pyIter_rangeiter st h
theorem zgI {a b:Int}:Builtin.Range.rangeSize a b (-1)=((a - b).toNat:Int):=by
 unfold Builtin.Range.rangeSize
 rw [if_neg (by decide)]
 split
 ·rw [show (-(-1):Int)=1 by decide,Int.ediv_one];omega
 ·omega
theorem zkc {a b:Int} (ha: -1000<=a) (ha':a<1000) (hb: -1000<=b) (hb':b<1000):Builtin.Range.small a b (-1)=true:=by
 unfold Builtin.Range.small
 rw [zgI]
 simp only [Builtin.Range.rangeFitsLong,Bool.and_eq_true,Bool.or_eq_true,qau,beq_iff_eq,show ¬(-1:Int)>0 by decide,if_false]
 omega
section
variable {X:Cx} {tg:Expr}
noncomputable def zuo (ta:TA):TI:=fun σ H R=>ta σ H fun vs H1=> ∃ i j:Int,vs=[.int i,.int j,.int (-1)]/\(-1000<=i/\i<1000/\ -1000<=j/\j<1000)/\R (Itd i (i - j).toNat) H1
theorem zkD {a b c:Expr} {ta:TA} {p pos:Pos} (hg:Gl X "range") (hm:X.mg "range"=none) (ha:PA X [a,b,c] ta) (hs:starEach [a,b,c] X.env=[(false,eval a X.env),(false,eval b X.env),(false,eval c X.env)]:=by rfl) (hs2:starEach [b,c] X.env=[(false,eval b X.env),(false,eval c X.env)]:=by rfl):
  PI X tg (.Call (.Name "range" p) [a,b,c] [] pos) (zuo ta):=by
 intro pins s σ H R I h
 refine Call_ (zgE I hg hm boot_range (PyProof.Rows.callWith_type1 (thn (ha pos pins s σ H _ I h) fun us s1 ⟨vs,H1,I1,r1,q1⟩=> ?_) (by rw [hs,hs2]) (by rw [hs2];rfl)))
 obtain ⟨i,j,e,⟨q1,q2,q3,q4⟩,q⟩:=q1
 subst e
 cases r1 with
 | cons r rr=>
  cases rr with
  | cons r' rr=>
   cases rr with
   | cons r'' rr=>
    cases rr
    obtain ⟨t,rfl⟩:=r
    obtain ⟨t',rfl⟩:=r'
    obtain ⟨t'',rfl⟩:=r''
    refine call_range_3 (by decide) ?_ (Or.inl (PyProof.noPylong_small (by decide)))
    refine wpAny_pyIter_range (IsRange.new ..) (zkc q1 q2 q3 q4) ?_
    have I2:Inv X pins σ H1 {s1 with heap:=s1.heap.push {cls:= .type "range",data:= .fields #[.int i t,.int j t',.int (-1) t'']},toks:=s1.toks}:=I1.kept fun b o e=>qad _ e
    refine ⟨(s1.heap.push {cls:= .type "range",data:= .fields #[.int i t,.int j t',.int (-1) t'']}).objs.size,[(s1.heap.push {cls:= .type "range",data:= .fields #[.int i t,.int j t',.int (-1) t'']}).objs.size],_,_,H1,rfl,
      I2.kept (t':=s1.toks) fun b o e=>qad _ e,zko _ i (i - j).toNat,?_,fun b hb=> ?_,q⟩
    ·have e1:i - ((0:Nat):Int)=i:=by simp
     have e2:(((i - j).toNat:Nat):Int) - ((0:Nat):Int)=Builtin.Range.rangeSize i j (-1):=by rw [zgI];simp
     show IsRangeIter _ _ (i - ((0:Nat):Int)) ((((i - j).toNat:Nat):Int) - ((0:Nat):Int)) (-1)
     rw [e1,e2]
     exact qal _ rfl
    ·have e:b=(s1.heap.push {cls:= .type "range",data:= .fields #[.int i t,.int j t',.int (-1) t'']}).objs.size:=by simpa using hb
     subst e
     exact I2.fpOk (qaG _) (I2.hok.fresh (qaG _))
theorem zgR (hc:X.calm=true):zay X (.type "list") (fun xs H Q=> ∃ (p:Addr) (j:Int),xs=[.ref p]/\H p=some (.rng 0 j)/\0<=j/\j<1000/\ ∀ l,H l=none->Q (.ref l) (upd H l (.lst (((List.range j.toNat).map fun (k:Nat)=>(k:Int)).map V.int)))):=by
 intro pins s σ H xs us Q I r h
 obtain ⟨p,j,rfl,hp,h0,h1,q⟩:=h
 obtain ⟨u,rfl,rx⟩:=zdp r
 cases rx
 obtain ⟨t,u',v,hr⟩:=(show zbI X.prog X.w H s.heap p (.rng 0 j) from I.hok p _ hp)
 refine call_list_range (I.ok.hd hc) hr (small_one (by omega) (by omega) (by omega) (by omega)) (zmS h0) (by omega) fun h' tk acc c' hk hS hacc=> ?_
 have hl:acc.toList.length=j.toNat:=by rw [qam];exact hacc.1
 have I2:=I.laid (t':=tk) (h':=h') (a:=s.heap.objs.size) (o:= .lst (((List.range j.toNat).map fun (k:Nat)=>(k:Int)).map V.int)) hk (qaG _)
  (show zbI X.prog X.w _ h' _ (.lst _) from ⟨by rw [qax,qax,List.length_range];exact qaE (show j.toNat<=1000 by omega) (by decide),acc.toList,c',zfa _ _ (by rw [qax,List.length_range,hl]) (fun k w e=> ?_),by simpa using hS⟩)
 ·exact ⟨.ref s.heap.objs.size,_,I2,rfl,q _ (I.hok.fresh (qaG _))⟩
 ·have hk':k<j.toNat:=by rw [<- hl];exact (qab.mp e).1
  obtain ⟨t,et⟩:=hacc.2 k w (by simpa using e)
  refine ⟨t,?_⟩
  rw [et]
  simp [hk']
end
end L2
namespace L3
open PySem PySem.Spec PyProof.Rows L2
section
variable {X:Cx} {E:XE} {e o:Expr} {f fo fe:FE} {pos apos cpos:Pos}
noncomputable def zjx (lo:Int) (n:Nat):List D:=(List.range n).map fun (k:Nat)=>D.int (lo - (k:Int))
theorem zn6 {K:W.Frag} {ι:Io} {H:Hp} {lo:Int} {n:Nat}:zql K ι H (Itd lo n) (zjx lo n) where
 go:=fun ι' H' i s hi=>by show i<n;simpa [zjx] using hi
 yld:=fun ι' H' _ i x H2 s _ hi ⟨e,y⟩=>by
  subst e y
  have hi:i<n:=by simpa [zjx] using hi
  refine ⟨.inl rfl,.int (lo - i),?_,by simp [Rel]⟩
  simp [zjx,hi]
 stop:=fun ι' H' s=>by
  show n<=(zjx lo n).length
  simp [zjx]
noncomputable def znP:List D->M (List D)
 | [.int i,.int j,.int c]=>if (-1000<=i/\i<1000/\ -1000<=j/\j<1000)/\c= -1 then pure (zjx i (i - j).toNat) else M.bad
 | _=>M.bad
noncomputable def zqs (fs:FA):FA:=fun sd=>do let ds<-fs sd;znP ds
theorem zrr {tg a b c:Expr} {p:Pos} {fs:FA} (hm:X.mg "range"=none) (ha:SA X E [a,b,c] fs) (hg:Gl X "range":=by rfl) (hs:starEach [a,b,c] X.env=[(false,eval a X.env),(false,eval b X.env),(false,eval c X.env)]:=by rfl) (hs2:starEach [b,c] X.env=[(false,eval b X.env),(false,eval c X.env)]:=by rfl):
  SI X E tg (.Call (.Name "range" p) [a,b,c] [] pos) (zqs fs):=by
 refine PI.imp (zkD hg hm ha hs hs2) fun σ H Q ⟨ι,h,sd,L,hh,q⟩=>⟨ι,h,sd,L,hh,Fin.bind q fun ds h1 ι1 H1 e1 s1 hr1 q1 vs rv=> ?_⟩
 unfold znP at q1
 split at q1
 ·rename_i i j c'
  simp only [zal,Rel] at rv
  obtain ⟨v,r,rfl,rfl,v',r',rfl,rfl,v'',r'',rfl,rfl,rfl⟩:=rv
  by_cases hj:(-1000<=i/\i<1000/\ -1000<=j/\j<1000)/\c'= -1
  ·rw [if_pos hj] at q1
   obtain ⟨hj,rfl⟩:=hj
   exact ⟨i,j,rfl,hj,Fin.out hr1 q1 _ zn6⟩
  ·rw [if_neg hj] at q1
   exact False.elim q1
 ·exact False.elim q1
noncomputable def zf8:D->M D
 | .int j=>if 0<=j/\j<1000 then pure (.lst (zc9 0 j.toNat)) else M.bad
 | _=>M.bad
theorem zkF {p1 p2 pos pos2:Pos} (hc:X.calm=true) (hm1:X.mg "list"=none) (hm2:X.mg "range"=none) (he:SE X E e f) (hg1:Gl X "list":=by rfl) (hg2:Gl X "range":=by rfl)
  (h1:starEach [.Call (.Name "range" p2) [e] [] pos2] X.env=[(false,eval (.Call (.Name "range" p2) [e] [] pos2) X.env)]:=by rfl) (h2:starEach [e] X.env=[(false,eval e X.env)]:=by rfl):
  SE X E (.Call (.Name "list" p1) [.Call (.Name "range" p2) [e] [] pos2] [] pos) (cUn zf8 f):=by
 refine PE.imp (zdz (zgR hc) hg1 hm1 PyProof.Rows.boot_list (zbK (zdz zh8 hg2 hm2 boot_range (zbK he zdc h2) (he:=h2)) zdc h1) (he:=h1)) fun σ H Q ⟨ι,h,sd,L,hh,q⟩=>⟨ι,h,sd,L,hh,Fin.bind q fun d h1 ι1 H1 e1 s1 hr1 q1 v rv=> ?_⟩
 cases d with
 | int j=>
  simp only [Rel] at rv
  obtain ⟨⟨c1,c2⟩,q2⟩:=Fin.guard q1
  refine ⟨j,by rw [rv],fun p hp=> ?_⟩
  have hr2:za1 X.K ι1 (upd H1 p (.rng 0 j)) h1:=hr1.laid hp
  exact ⟨p,j,rfl,zaL,c1,c2,fun l hl=>zqI hr2 zn0 (Fin.step (hr1.laidS hp) q2) hl⟩
 | _=>exact False.elim q1
theorem zal.eraseIdx {K:W.Frag} {ι:Io} {H:Hp}: ∀ {ds:List D} {vs:List V} (i:Nat),zal K ι H ds vs->zal K ι H (ds.eraseIdx i) (vs.eraseIdx i)
 | [],vs,i,h=>by
  simp only [zal] at h
  subst h
  simpa using zal.nil
 | x::r,vs,i,h=>by
  simp only [zal] at h
  obtain ⟨v,vs',rfl,rv,rl⟩:=h
  cases i with
  | zero=>simpa using rl
  | succ i=>exact zal.cons rv (zal.eraseIdx i rl)
end
end L3
namespace L3
open PySem
open Sem (wp)
open AutoSeq1 (wpAny_loadPart')
section
variable {prog:Program} {w:World} {A:Around} {E:Value->Shared->Prop} {s:Shared}
end
noncomputable def zoN (A:Around):List Addr:=match A.handled with
 | some (.ref a)=>[a]
 | _=>[]
theorem znM.keep {A:Around} {h h':Heap} (x:znM A h) (k: ∀ b∈zoN A, ∀ o,h.get? b=some o->h'.get? b=some o):znM A h':=by
 rcases x with x | ⟨a,cls,head,x1,ob,vs,x2,x3⟩
 ·exact .inl x
 ·exact .inr ⟨a,cls,head,x1,ob,vs,k a (by unfold zoN;rw [x1];simp) _ x2,x3⟩
end L3
namespace L3
open PySem
section
variable {prog:Program} {w:World} {A:Around} {E:Value->Shared->Prop} {s:Shared}
end
end L3
namespace L2
open PySem PySem.Spec PyProof.Rows
section
variable {X:Cx} {pins:List (Addr×Obj)} {σ:St} {H:Hp} {s:Shared} {h':Heap}
end
section
variable {X:Cx} {elts:List Expr} {k:Nat} {tpos:Pos}
end
end L2
namespace L3
open PySem PySem.Spec PyProof.Rows L2
section
variable {X:Cx} {E:XE} {elts:List Expr} {k:Nat} {tpos pos:Pos}
end
end L3
namespace L3
open PySem PyProof.Rows
noncomputable def pLt (p q:Int×List Int):Bool:=if p.1=q.1 then HT.zbp p.2 q.2 else decide (p.1<q.1)
theorem zcW: ∀ xs:List Int,HT.zbp xs xs=false
 | []=>rfl
 | x::r=>by rw [HT.zbg,if_pos rfl,zcW r]
section
open PySem.SeqAt
open PySem.AutoSeq1 (wpAny_loadPart')
open PySem.MeetsSeq PySem.MeetsSeq2 PySem.MeetsSeq3
noncomputable def ztD (A:Around) (s:Shared) (a b:Value) (e l:Bool):Prop:=EqAt A s a b e/\(e=false-> ∀ (prog:Program) (w:World) (E Q:Value->Shared->Prop),Q (.bool l) s->wpAny (model prog w) A (richCompare .Lt a b) Q E s)
theorem zgF (l b:Addr) (a0 a1 b0 b1:Value) (n n2:Nat) (dd dd2:Option Addr) (sl sl2:Array (Option Value)) (e0 l0 e1 l1:Bool):
  Meets (Builtin.«tuple.__lt__» ⟨[.ref l,.ref b],[]⟩)
   (fun A R s=>s.heap.get? l=some {cls:= .type "tuple",dict:=dd,data:= .seq #[a0,a1] n,slots:=sl}/\s.heap.get? b=some {cls:= .type "tuple",dict:=dd2,data:= .seq #[b0,b1] n2,slots:=sl2}/\
     ztD A.in1 s a0 b0 e0 l0/\ztD A.in1 s a1 b1 e1 l1/\R (.ok (.ret (.bool (if e0=true then (if e1=true then false else l1) else l0)))) s):=
 .of_wp fun prog w A R s h=>by
  obtain ⟨hp,g,d,tk,os⟩:=s;obtain ⟨hl,hb,c0,c1,h⟩:=h
  have f2:=AutoSeq1.sub_tuple_tuple
  wp_walk using wpAny_loadPart' hl,wpAny_loadPart' hb,wpAny_forIn_list _ (fun rest b s'=>b.1=none/\s'=⟨hp,g,d,tk,os⟩/\
    (rest=[(a0,b0),(a1,b1)]\/(rest=[(a1,b1)]/\e0=true)\/(rest=[]/\e0=true/\e1=true))) _
  case turn=>
   rintro ⟨y,x⟩ rest b s' ⟨hb',rfl,hz⟩
   rcases hz with hz | ⟨hz,z0⟩ | ⟨hz,_⟩
   ·cases hz
    refine qaH (c0.1 prog w _ _ ?_)
    cases e0 with
    | true=>
     wp_walk
     exact ⟨rfl,rfl,.inr (.inl ⟨rfl,rfl⟩)⟩
    | false=>
     have hri:=c0.2 rfl prog w
     wp_walk using hri
     exact ⟨_,rfl,by simpa using h⟩
   ·cases hz
    subst z0
    refine qaH (c1.1 prog w _ _ ?_)
    cases e1 with
    | true=>
     wp_walk
     exact ⟨rfl,rfl,.inr (.inr ⟨rfl,rfl,rfl⟩)⟩
    | false=>
     have hri:=c1.2 rfl prog w
     wp_walk using hri
     exact ⟨_,rfl,by simpa using h⟩
   ·cases hz
  case fin=>
   rintro ⟨b1',b2'⟩ s' ⟨hb',rfl,hz⟩
   simp only at hb'
   subst hb'
   rcases hz with hz | ⟨hz,_⟩ | ⟨_,z0,z1⟩
   ·cases hz
   ·cases hz
   ·subst z0 z1
    wp_walk
    exact ⟨_,rfl,by simpa [Builtin.Tuple.tupleCompareSizes] using h⟩
  case h=>
   exact ⟨rfl,rfl,.inl rfl⟩
section
variable {prog:Program} {w:World} {A:Around} {E:Value->Shared->Prop} {s:Shared}
theorem zs8 {l b:Addr} {a0 a1 b0 b1:Value} {e0 l0 e1 l1:Bool} {Q:Value->Shared->Prop} (hl:IsTup s.heap l #[a0,a1]) (hb:IsTup s.heap b #[b0,b1]) (c0:ztD A.in1 s a0 b0 e0 l0) (c1:ztD A.in1 s a1 b1 e1 l1)
  (hu:A.units<cLine) (h:Q (.bool (if e0=true then (if e1=true then false else l1) else l0)) s):wpAny (model prog w) A (richCompare .Lt (.ref l) (.ref b)) Q E s:=by
 obtain ⟨⟨cls,dd,data,sl⟩,ho,hc,n,hd⟩:=id hl
 obtain ⟨⟨cls2,dd2,data2,sl2⟩,ho2,hc2,n2,hd2⟩:=id hb
 simp only at hc hd hc2 hd2
 subst hc hd hc2 hd2
 exact richCompare_meets_room (op:= .Lt) ⟨_,ho,rfl⟩ ⟨_,ho2,rfl⟩ PySem.F.slot_tuple_lt PySem.F.entry_tuple_lt (PySem.F.args_tuple_lt_2 _ _) (zgF l b a0 a1 b0 b1 n n2 dd dd2 sl sl2 e0 l0 e1 l1)
  ⟨ho,ho2,c0,c1,show Value.bool _≠Value.notImplemented/\Q (.bool _) s from ⟨(fun x=>nomatch x),h⟩⟩ hu
theorem zgx: ∀ {xs:List Value} {ns:List Int},IntsAre xs ns-> ∀ (j:Nat) (h:j<xs.length), ∃ (t:Tok) (i:Int),ns[j]? = some i/\xs[j]= .int i t
 | _,_,.nil,j,h=>by cases h
 | _,_,.cons a t r,0,_=>⟨t,a,rfl,rfl⟩
 | _,_,.cons a t r,j+1,h=>by
  obtain ⟨t',i,e1,e2⟩:=zgx r j (Nat.lt_of_succ_lt_succ h)
  exact ⟨t',i,e1,e2⟩
theorem zfW: ∀ {xs:List Value} {ns ms:List Int},IntsAre xs ns->IntsAre xs ms->ns=ms
 | _,_,_,.nil,h=>by cases h;rfl
 | _,_,_,.cons a t r,h=>by
  cases h with
  | cons _ _ r'=>rw [zfW r r']
theorem zg9 {q r:Addr} {xs ys:List Value} {ns ms:List Int} (hq:IsTup s.heap q xs.toArray) (hr:IsTup s.heap r ys.toArray) (hi:IntsAre xs ns) (hj:IntsAre ys ms) (hu:A.units<cLine):EqAt A s (.ref q) (.ref r) (ns==ms):=by
 by_cases hqr:q=r
 ·subst hqr
  obtain ⟨o,e,_,n,d⟩:=hq
  obtain ⟨o',e',_,n',d'⟩:=hr
  rw [e] at e'
  cases e'
  rw [d] at d'
  injection d' with d' _
  have:xs=ys:=by simpa using d'
  subst this
  rw [zfW hi hj]
  simpa using EqAt.same (A:=A) (s:=s) (.ref q)
 ·have l1:=hi.length
  have l2:=hj.length
  have hc:=RcAt.tuples (A:=A) (s:=s) (e:=fun j=>ns[j]? == ms[j]?) hq hr hu fun j h1 h2=>by
   have h1':j<xs.length:=by simpa using h1
   have h2':j<ys.length:=by simpa using h2
   obtain ⟨t,i,e1,e2⟩:=zgx hi j h1'
   obtain ⟨u,k,e3,e4⟩:=zgx hj j h2'
   have g1:xs.toArray[j]= .int i t:=by simpa using e2
   have g2:ys.toArray[j]= .int k u:=by simpa using e4
   rw [g1,g2,e1,e3]
   have:(some i==some k)=(i==k):=rfl
   rw [this]
   exact EqAt.int_int i t k u
  have he:((List.range (min xs.toArray.size ys.toArray.size)).all (fun j=>ns[j]? == ms[j]?) && xs.toArray.size==ys.toArray.size)=(ns==ms):=by
   rw [Bool.eq_iff_iff,Bool.and_eq_true,List.all_eq_true,beq_iff_eq,beq_iff_eq]
   simp only [qar,beq_iff_eq,List.mem_range]
   constructor
   ·rintro ⟨h1,h2⟩
    refine List.ext_getElem? fun j=> ?_
    by_cases hjl:j<ns.length
    ·exact h1 j (by omega)
    ·rw [List.getElem?_eq_none (by omega),List.getElem?_eq_none (by omega)]
   ·intro e
    subst e
    exact ⟨fun _ _=>rfl,by omega⟩
  rw [<- he]
  exact EqAt.of_refs hqr hc
end
noncomputable def zb2 (h:Heap) (v:Value) (p:Int×List Int):Prop:= ∃ (a q:Addr) (t:Tok) (its:List Value),v= .ref a/\IsTup h a #[.int p.1 t,.ref q]/\IsTup h q its.toArray/\IntsAre its p.2
theorem zb2.keep {h h':Heap} {v:Value} {p:Int×List Int} (k: ∀ b o,h.get? b=some o->h'.get? b=some o):zb2 h v p->zb2 h' v p:=fun ⟨a,q,t,its,e,⟨o,x1,x2⟩,⟨o',y1,y2⟩,z⟩=>⟨a,q,t,its,e,⟨o,k _ _ x1,x2⟩,⟨o',k _ _ y1,y2⟩,z⟩
theorem zm4 {prog:Program} {w:World} {A:Around} {E:Value->Shared->Prop} {s:Shared} {u v:Value} {p q:Int×List Int} {Q:Value->Shared->Prop} (hv:zb2 s.heap v p) (hu:zb2 s.heap u q) (hr:A.units+2<cLine) (h:Q (.bool (pLt p q)) s):wpAny (model prog w) A (richCompare .Lt v u) Q E s:=by
 obtain ⟨a,x,t,its,rfl,ha,hx,hi⟩:=hv
 obtain ⟨b,y,t',its',rfl,hb,hy,hj⟩:=hu
 have r1:A.in1.units<cLine:=by rw [Around.in1_units];omega
 refine zs8 (e0:=(p.1==q.1)) (l0:=decide (p.1<q.1)) (e1:=(p.2==q.2)) (l1:=HT.zbp p.2 q.2) ha hb ⟨EqAt.int_int _ _ _ _,fun _ prog w E Q hq=>HT.zjo _ _ _ _ _ _ prog w E Q hq⟩
  ⟨zg9 hx hy hi hj r1,fun _ prog w E Q hq=>HT.zfQ hx hy (by simpa using hi) (by simpa using hj) r1 hq⟩ (by omega) ?_
 have e:(if (p.1==q.1)=true then (if (p.2==q.2)=true then false else HT.zbp p.2 q.2) else decide (p.1<q.1))=pLt p q:=by
  unfold pLt
  by_cases h1:p.1=q.1
  ·rw [if_pos (by simpa using h1),if_pos h1]
   by_cases h2:p.2=q.2
   ·rw [if_pos (by simpa using h2),h2,zcW]
   ·rw [if_neg (by simpa using h2)]
  ·rw [if_neg (by simpa using h1),if_neg h1]
 rw [e]
 exact h
end
end L3
namespace L3
open PySem
section
variable {prog:Program} {w:World} {A:Around} {R:Result->Shared->Prop} {I:Addr} {fp wr:List Addr} {n:Nat} {P:Nat->Value->Prop} {St:Nat->Heap->Prop} {h0:Heap}
noncomputable def zqc (prog:Program) (w:World) (A:Around) (h0:Heap) (P:Nat->Value->Prop) (bt:Nat->Nat->Bool):Prop:=
 ∀ i j vi vj (s:Shared) (Q:Value->Shared->Prop) (E:Value->Shared->Prop),(∀ b o,h0.get? b=some o->s.heap.get? b=some o)->P i vi->P j vj->Q (.bool (bt i j)) s->wpAny (model prog w) A (richCompare .Lt vi vj) Q E s
theorem zlI (W:Walks prog w A.in1 I fp wr n P St) (bt:Nat->Nat->Bool) (hcmp:zqc prog w A.in1 h0 P bt) (S:Addr) (hSf:S∉fp) (h0w: ∀ b o,h0.get? b=some o->b∉wr/\b≠S):
  ∀ (k j:Nat) (s:Shared) (vb:Value) (c:Nat),n - (j+1)=k->j+1<=n->St (j+1) s.heap->P (argBest bt j) vb->(∀ b o,h0.get? b=some o->s.heap.get? b=some o)->
  s.heap.get? S=some {cls:= .type "list",dict:=none,data:= .seq #[vb,vb] c,slots:= #[]}->
  (∀ v h' tk,P (argBest bt (n - 1)) v->(∀ b o,b∉wr->b≠S->s.heap.get? b=some o->h'.get? b=some o)->R (.ok (.ret v)) {s with heap:=h',toks:=tk})->
  codeAny (model prog w) A (.builtin "min.loop" ⟨[.ref I,.none,.ref S],[]⟩) R s:=by
 have hSw:S∉wr:=fun h=>hSf (W.sub _ h)
 have hname:(toString "min"++toString ".loop":String)="min.loop":=by decide
 intro k
 induction k with
 | zero=>
  intro j s vb c hk hj hst hPb hx hS hR
  have hin:j+1=n:=by omega
  refine codeAny_builtin F.entry_min_loop ?_
  rw [Around.under_plainId F.plain_min_loop _]
  show wpAny _ A.in1 (seqItems? (.ref S)>>=_) _ _ s
  refine qaH (wpAny_seqItems hS rfl ?_)
  show wpAny _ A.in1 (tryCatch (pyNext (.ref I)) _>>=_) _ _ s
  refine qaH (wpAny_tryCatch (W.done s _ _ (hin▸hst) fun h' tk hk'=> ?_))
  show wpAny _ A.in1 (updateSeq S (fun _=> #[])>>=_) _ _ _
  refine qaH (wpAny_updateSeq (hk' S _ hSw hS) rfl (qaH (wpAny_letGo (qaI ?_))))
  exact hR vb _ tk (by rw [<- hin];exact hPb) fun b o hbw hbS e=>(qae _ _ (Ne.symm hbS)).trans (hk' b o hbw e)
 | succ k ih=>
  intro j s vb c hk hj hst hPb hx hS hR
  have hlt:j+1<n:=by omega
  refine codeAny_builtin F.entry_min_loop ?_
  rw [Around.under_plainId F.plain_min_loop _]
  show wpAny _ A.in1 (seqItems? (.ref S)>>=_) _ _ s
  refine qaH (wpAny_seqItems hS rfl ?_)
  show wpAny _ A.in1 (tryCatch (pyNext (.ref I)) _>>=_) _ _ s
  refine qaH (wpAny_tryCatch (W.item (j+1) s _ _ hlt hst fun v h' tk hP hst' hk'=> ?_))
  have hS':=hk' S _ hSw hS
  have hx': ∀ b o,h0.get? b=some o->h'.get? b=some o:=fun b o e=>hk' b o (h0w b o e).1 (hx b o e)
  show wpAny _ A.in1 (tryCatch (holding [v,v] (richCompare .Lt v vb>>=_)) _>>=_) _ _ _
  refine qaH (wpAny_tryCatch (qaB (qaH (hcmp (j+1) (argBest bt j) v vb _ _ _ hx' hP hPb ?_))))
  refine qaH (qaB (wpAny_truthy_bool ?_))
  refine qaH (wpAny_letGo (qaI ?_))
  cases hb:bt (j+1) (argBest bt j) with
  | true=>
   simp only [if_true]
   refine qaH (wpAny_updateSeq hS' rfl (qaH (wpAny_letGo ?_)))
   rw [hname]
   refine qaI ⟨plainId_quiet F.plain_min_loop _,ih (j+1) _ v _ (by omega) hlt (W.frame _ _ _ hst' fun b hbf o e=> ?_) (by simp only [argBest,hb,if_true];exact hP) (fun b o e=> ?_) (qai _ hS' rfl)
     fun v' h'' tk'' hP' hk''=> ?_⟩
   ·exact (qae _ _ (fun h:S=b=>hSf (by rw [h];exact hbf))).trans e
   ·exact (qae _ _ (Ne.symm (h0w b o e).2)).trans (hx' b o e)
   ·exact hR v' h'' tk'' hP' fun b o hbw hbS e=>hk'' b o hbw hbS ((qae _ _ (Ne.symm hbS)).trans (hk' b o hbw e))
  | false=>
   simp only [qaq,if_false]
   refine qaH (wpAny_letGo ?_)
   rw [hname]
   exact qaI ⟨plainId_quiet F.plain_min_loop _,ih (j+1) _ vb c (by omega) hlt hst' (by simp only [argBest,hb,qaq,if_false];exact hPb) hx' hS' fun v' h'' tk'' hP' hk''=>
     hR v' h'' tk'' hP' fun b o hbw hbS e=>hk'' b o hbw hbS (hk' b o hbw e)⟩
end
section
variable {prog:Program} {w:World} {A:Around} {E:Value->Shared->Prop} {s:Shared}
theorem zsP {x:Value} {Q:Value->Shared->Prop}
  (h:wpAny (model prog w) A.in1 (pyIter x) (fun it s₂=> ∃ I fp wr n P St bt h0,it= .ref I/\Walks prog w A.in1 I fp wr n P St/\St 0 s₂.heap/\(∀ b∈fp,b<s₂.heap.objs.size)/\0<n/\zqc prog w A.in1 h0 P bt/\(∀ b o,h0.get? b=some o->b∉wr/\s₂.heap.get? b=some o)/\
    ∀ v h' tk,P (argBest bt (n - 1)) v->(∀ b o,b∉wr->s₂.heap.get? b=some o->h'.get? b=some o)->Q v {s₂ with heap:=h',toks:=tk}) E s):
  wpAny (model prog w) A (call (.builtin "min") [x]) Q E s:=by
 have hname:(toString "min"++toString ".loop":String)="min.loop":=by decide
 refine call_function_tree F.kind_min F.plain_min F.entry_min (F.args_min1 _) ?_
 show wpAny _ A.in1 (Builtin.Builtins.bindParams "min" ["key","default"] 0 ⟨[],[]⟩>>=_) _ _ s
 refine qaH (wpAny_of_eq (show Builtin.Builtins.bindParams "min" ["key","default"] 0 ⟨[],[]⟩=pure [none,none] from rfl) ?_)
 refine qaH (qaI ?_)
 refine qaH (qaK h (fun it s₂ h₂=> ?_) fun _ _ e=>e)
 obtain ⟨I,fp,wr,n,P,St,bt,h0,rfl,W,hst,hfp,hn,hcmp,hx,hQ⟩:=h₂
 refine qaH (qat ?_)
 have hSf:s₂.heap.objs.size∉fp:=fun hm=>qaA _ (hfp _ hm)
 have hSw:s₂.heap.objs.size∉wr:=fun h=>hSf (W.sub _ h)
 have h0w: ∀ b o,h0.get? b=some o->b∉wr/\b≠s₂.heap.objs.size:=fun b o e=>⟨(hx b o e).1,qaD (qaC (hx b o e).2)⟩
 rw [hname]
 refine qaI ⟨plainId_quiet F.plain_min_loop _,?_⟩
 refine codeAny_builtin F.entry_min_loop ?_
 rw [Around.under_plainId F.plain_min_loop _]
 show wpAny _ A.in1 (seqItems? (.ref s₂.heap.objs.size)>>=_) _ _ _
 refine qaH (wpAny_seqItems (qal _ rfl) rfl ?_)
 show wpAny _ A.in1 (tryCatch (pyNext (.ref I)) _>>=_) _ _ _
 refine qaH (wpAny_tryCatch (W.item 0 _ _ _ hn (W.frame _ _ _ hst fun b _ o e=>qad _ e) fun v h' tk hP hst' hk'=> ?_))
 have hS':=hk' s₂.heap.objs.size _ hSw (qal _ rfl)
 show wpAny _ A.in1 (updateSeq s₂.heap.objs.size (fun _=> #[v,v])>>=_) _ _ _
 refine qaH (wpAny_updateSeq hS' rfl ?_)
 rw [hname]
 refine qaI ⟨plainId_quiet F.plain_min_loop _,zlI W bt hcmp s₂.heap.objs.size hSf h0w _ 0 _ v _ rfl hn (W.frame _ _ _ hst' fun b hbf o e=> ?_) hP (fun b o e=> ?_) (qai _ hS' rfl) fun v' h'' tk'' hP' hk''=> ?_⟩
 ·exact (qae _ _ (fun h:s₂.heap.objs.size=b=>hSf (by rw [h];exact hbf))).trans e
 ·exact (qae _ _ (Ne.symm (h0w b o e).2)).trans (hk' b o (h0w b o e).1 (qad _ (hx b o e).2))
 ·exact hQ v' h'' tk'' hP' fun b o hbw e=>hk'' b o hbw (qaD (qaC e)) ((qae _ _ (Ne.symm (qaD (qaC e)))).trans (hk' b o hbw (qad _ e)))
theorem znT {l:Addr} {items:Array Value} {bt:Nat->Nat->Bool} {Q:Value->Shared->Prop} (hh:znM A s.heap) (hl:s.heap.IsList l items) (hn:0<items.size) (hc:zqc prog w A.in1 s.heap (fun i v=>items[i]? = some v) bt)
  (k: ∀ v h' tk,items[argBest bt (items.size - 1)]? = some v->(∀ b o,s.heap.get? b=some o->h'.get? b=some o)->Q v {s with heap:=h',toks:=tk}):wpAny (model prog w) A (call (.builtin "min") [.ref l]) Q E s:=by
 have hlt:l<s.heap.objs.size:=by obtain ⟨_,e,_⟩:=hl;exact qaC e
 have hlI:l≠s.heap.objs.size:=qaD hlt
 refine zsP (wpAny_pyIter_list hl ?_)
 have hfp: ∀ b∈[s.heap.objs.size,l],b<(s.heap.push {cls:= .type "list_iterator",data:= .fields #[.ref l,.int 0 0]}).objs.size:=fun b hb=>by
  rw [Heap.size_push]
  simp only [List.mem_cons,qaw,or_false] at hb
  rcases hb with rfl | rfl
  ·exact Nat.lt_succ_self _
  ·exact Nat.lt_succ_of_lt hlt
 have st1:(s.heap.push {cls:= .type "list_iterator",data:= .fields #[.ref l,.int 0 0]}).IsListIter s.heap.objs.size l 0:=⟨_,qal _ rfl,rfl,rfl⟩
 have hx: ∀ b o,s.heap.get? b=some o->b∉[s.heap.objs.size]/\(s.heap.push {cls:= .type "list_iterator",data:= .fields #[.ref l,.int 0 0]}).get? b=some o:=fun b o e=>
  ⟨fun hm=>qaA _ (by simp only [List.mem_cons,qaw,or_false] at hm;exact hm▸qaC e),qad _ e⟩
 rcases hh with hh | ⟨ha,cls,head,hh,hX⟩
 ·exact ⟨_,_,_,_,_,_,bt,s.heap,rfl,Walks.list (A:=A.in1) hh _ l hlI items,⟨st1,hl.push _⟩,hfp,hn,hc,hx,fun v h' tk hv hk=>k v h' tk hv fun b o e=>hk b o (hx b o e).1 (hx b o e).2⟩
 ·obtain ⟨ob,vs,x1,x2⟩:=id hX
  have hX2:=hX.keep (h':=s.heap.push {cls:= .type "list_iterator",data:= .fields #[.ref l,.int 0 0]}) fun o e=>qad _ e
  refine ⟨_,_,_,_,_,_,bt,s.heap,rfl,zjB (A:=A.in1) (ha:=ha) (cls:=cls) (head:=head) hh _ l hlI (qaD (qaC x1)) items,⟨st1,hl.push _,hX2⟩,fun b hb=> ?_,hn,hc,hx,fun v h' tk hv hk=>k v h' tk hv fun b o e=>hk b o (hx b o e).1 (hx b o e).2⟩
  simp only [List.mem_cons,qaw,or_false] at hb
  rcases hb with z | z | z
  ·exact hfp b (by simp [z])
  ·exact hfp b (by simp [z])
  ·rw [z]
   show ha<(s.heap.push _).objs.size
   rw [Heap.size_push]
   exact Nat.lt_succ_of_lt (qaC x1)
end
end L3
namespace L2
open PySem PySem.Spec PyProof.Rows L3
section
variable {X:Cx}
noncomputable def zkC (K:W.Frag) (H:Hp) (v:V) (p:Int×List Int):Prop:= ∃ a q,v= .ref a/\SqT K H a [.int p.1,.ref q]/\SqT K H q (p.2.map V.int)
theorem zhx {pins:List (Addr×Obj)} {σ:St} {H:Hp} {s:Shared} (I:Inv X pins σ H s) {v:V} {u:Value} {p:Int×List Int} (h:zkC X.K H v p) (r:zbj v u):zb2 s.heap u p:=by
 obtain ⟨a,q,rfl,h1,h2⟩:=h
 cases r
 obtain ⟨its,r1,p1,_⟩:=I.tuple h1
 obtain ⟨its2,r2,p2,_⟩:=I.tuple h2
 obtain ⟨u1,u2,rfl,e1,e2⟩:=zpE r1
 obtain ⟨t,rfl⟩:=e1
 cases e2
 exact ⟨a,q,t,its2,rfl,p1,p2,zbP r2⟩
theorem zll (hu:X.A.units+60<cLine):zay X (.builtin "min") (fun xs H Q=> ∃ (a:Addr) (vs:List V) (ps:List (Int×List Int)),xs=[.ref a]/\SqL X.K H a vs/\ps.length=vs.length/\0<vs.length/\(∀ (i:Nat) v p,vs[i]? = some v->ps[i]? = some p->zkC X.K H v p)/\
    ∀ v,vs[argBest (fun i j=>pLt (ps.getD i (0,[])) (ps.getD j (0,[]))) (ps.length - 1)]? = some v->Q v H):=by
 intro pins s σ H xs us Q I r h
 obtain ⟨a,vs,ps,rfl,hq,hlen,hpos,hp,q⟩:=h
 obtain ⟨u,rfl,rx⟩:=zdp r
 cases rx
 obtain ⟨its,r',pl,hz⟩:=I.list hq
 have hlen':=r'.length
 have back: ∀ (i:Nat) u,its.toArray[i]? = some u-> ∃ v,vs[i]? = some v/\zbj v u:=fun i u e=>by
  have e':its[i]? = some u:=by simpa using e
  have hi:i<vs.length:=by have:=(qab.mp e').1;omega
  obtain ⟨u',hu',ru⟩:=r'.get (x:=vs[i]) (i:=i) (by simp [hi])
  rw [e'] at hu'
  cases hu'
  exact ⟨vs[i],by simp [hi],ru⟩
 have key: ∀ (i:Nat) u,its.toArray[i]? = some u->zb2 s.heap u (ps.getD i (0,[])):=fun i u e=>by
  obtain ⟨v,ev,ru⟩:=back i u e
  have hi:i<ps.length:=by have:=(qab.mp ev).1;omega
  refine zhx I (hp i v _ ev ?_) ru
  simp [List.getD,hi]
 refine L3.znT I.hand pl.isList (by simp;omega) (bt:=fun i j=>pLt (ps.getD i (0,[])) (ps.getD j (0,[]))) (fun i j vi vj s' Q E hk hi hj hQ=>zm4 ((key i vi hi).keep hk) ((key j vj hj).keep hk) (by rw [Around.in1_units];omega) hQ) fun v h' tk hv hk=> ?_
 have hs:its.toArray.size - 1=ps.length - 1:=by simp;omega
 rw [hs] at hv
 obtain ⟨v0,ev,ru⟩:=back _ _ hv
 exact ⟨v0,H,I.grown (s':={s with heap:=h',toks:=tk}) rfl rfl hk,ru,q v0 ev⟩
end
end L2
namespace L3
open PySem PySem.Spec PyProof.Rows L2
section
variable {X:Cx} {E:XE}
noncomputable def zc6:D->Option (Int×List Int)
 | .tup [.int i,.tup ds]=>(zc1 ds).map fun ns=>(i,ns)
 | _=>none
noncomputable def zcJ:List D->Option (List (Int×List Int))
 | []=>some []
 | d::r=>(zc6 d).bind fun p=>(zcJ r).map fun ps=>p::ps
noncomputable def zbw (ps:List (Int×List Int)):Nat:=argBest (fun i j=>pLt (ps.getD i (0,[])) (ps.getD j (0,[]))) (ps.length - 1)
noncomputable def zk6:List D->M D:=zmc fun d=>do
 let ds<-zlO d
 let ps<-ofO (match d with | .tup _=>none | _=>zcJ ds)
 ofO (ds[zbw ps]?)
theorem zfH {K:W.Frag} {ι:Io} {H:Hp} {d:D} {v:V} {p:Int×List Int} (r:Rel K ι H d v) (e:zc6 d=some p):zkC K H v p:=by
 unfold zc6 at e
 split at e
 ·rename_i i ds
  cases z:zc1 ds with
  | none=>rw [z] at e;cases e
  | some ns=>
   rw [z] at e
   cases e
   obtain ⟨a,vs,rfl,h1,h2⟩:=zcm r
   simp only [zal] at h2
   obtain ⟨v1,r1,rfl,g1,v2,r2,rfl,g2,rfl⟩:=h2
   simp only [Rel] at g1
   subst g1
   obtain ⟨q,ws,rfl,k1,k2⟩:=zcm g2
   have:=zdv k2 z
   subst this
   exact ⟨a,q,rfl,h1,k1⟩
 ·cases e
theorem zfJ {K:W.Frag} {ι:Io} {H:Hp}: ∀ {ds:List D} {vs:List V} {ps:List (Int×List Int)},zal K ι H ds vs->zcJ ds=some ps->ps.length=vs.length/\ ∀ (i:Nat) v p,vs[i]? = some v->ps[i]? = some p->zkC K H v p
 | [],vs,ps,h,e=>by
  simp only [zal] at h
  subst h
  cases e
  exact ⟨rfl,fun i v p e1=>by simp at e1⟩
 | d::r,vs,ps,h,e=>by
  simp only [zal] at h
  obtain ⟨v,r',rfl,h1,h2⟩:=h
  unfold zcJ at e
  cases z:zc6 d with
  | none=>rw [z] at e;cases e
  | some p=>
   rw [z] at e
   cases z2:zcJ r with
   | none=>rw [z2] at e;cases e
   | some qs=>
    rw [z2] at e
    cases e
    obtain ⟨g1,g2⟩:=zfJ h2 z2
    refine ⟨by simp [g1],fun i v' p' e1 e2=> ?_⟩
    cases i with
    | zero=>
     simp at e1 e2
     subst e1 e2
     exact zfH h1 z
    | succ i=>
     simp at e1 e2
     exact g2 i v' p' e1 e2
theorem zdP (hu:X.A.units+60<cLine):zay X (.builtin "min") (zhD X.K E zk6):=by
 refine zay.imp (zll hu) fun xs H Q ⟨ι,h,ds,rl,hr,q⟩=> ?_
 obtain ⟨d,v,e,r,q⟩:=zb3 rl q
 obtain ⟨a,vs,ds',e',hs,rl',q⟩:=zcS hr r q
 obtain ⟨ps,ep,q⟩:=Fin.ofOb q
 obtain ⟨x,ex⟩: ∃ x,ds'[zbw ps]? = some x:=by
  cases ex:ds'[zbw ps]? with
  | none=>rw [ex] at q;exact False.elim q
  | some x=>exact ⟨x,rfl⟩
 rw [ex] at q
 rcases hs with ⟨hs,hd⟩ | ⟨hs,hd⟩
 ·have ep':zcJ ds'=some ps:=by
   cases d with
   | tup ts=>exact absurd rfl (hd ts)
   | _=>exact ep
  obtain ⟨g1,g2⟩:=zfJ rl' ep'
  have hlt:=(qab.mp ex).1
  have hl:=rl'.length
  refine ⟨a,vs,ps,by rw [e,e'],hs,g1,by omega,g2,fun v0 ev=> ?_⟩
  obtain ⟨w,ew,rw'⟩:=zal.get rl' ex
  have ev':vs[zbw ps]? = some v0:=ev
  rw [ew] at ev'
  cases ev'
  exact Fin.out hr q _ rw'
 ·subst hd
  cases ep
end
section
variable {X:Cx} {E:XE}
noncomputable def zkd (x y:D):M D:=fun h=>match pdH h x,pdH h y with
 | some a,some b=>if zew a b=true then .ok (.bl (!PyData.eqv a b)) h else .bad
 | _,_=> .bad
theorem zjd (hu:X.A.units+60<cLine):OpR X (compareOp .NotEq) (zcT X.K E zkd):=by
 intro pins s σ H x y v u Q I rx ry ⟨ι,h,d1,d2,r1,r2,hr,q⟩
 unfold zkd at q
 cases e1:pdH h d1 with
 | none=>rw [e1] at q;exact False.elim q
 | some a=>
  cases e2:pdH h d2 with
  | none=>rw [e1,e2] at q;exact False.elim q
  | some b=>
   rw [e1,e2] at q
   dsimp only at q
   by_cases c:zew a b=true
   ·rw [if_pos c] at q
    obtain ⟨c1,c2,c3⟩:=zek c
    obtain ⟨as,ra⟩:=zhy I hr r1 rx e1
    obtain ⟨bs,rb⟩:=zhy I hr r2 ry e2
    exact SeqAt.compareNe_reads ra rb c1 c2 (by omega) ⟨.bl _,H,I,rfl,q ι H (zbu.refl _ _) hr (.bl _) (by simp [Rel])⟩
   ·rw [if_neg c] at q
    exact False.elim q
noncomputable def zt3 (d:D):M Bool:=do let ds<-zlO d;pure (!ds.isEmpty)
noncomputable def zqX (f:FE):FT:=fun sd=>do let d<-f sd;zt3 d
theorem zsf {e:Expr} {f:FE} (h:SE X E e f) (he: ∀ whole,isTrue e X.env whole=(do let v<-whole;standAt e.pos;holding [v] (truthy v)):=by intro _;rfl):ST X E e (zqX f):=by
 refine PT.imp (zmM h he) fun σ H Q ⟨ι,h,sd,L,hh,q⟩=>⟨ι,h,sd,L,hh,Fin.bind q fun d h1 ι1 H1 e1 s1 hr1 q1 v rv=> ?_⟩
 obtain ⟨a,vs,ds',e',hs,rl',q2⟩:=zcS hr1 rv q1
 have hl:=rl'.length
 have ee:(!ds'.isEmpty)= !vs.isEmpty:=by
  cases ds' with
  | nil=>
   cases vs with
   | nil=>rfl
   | cons _ _=>simp at hl
  | cons _ _=>
   cases vs with
   | nil=>simp at hl
   | cons _ _=>rfl
 rw [ee] at q2
 refine ⟨!vs.isEmpty,?_,Fin.out hr1 q2⟩
 rw [e']
 rcases zp7 hs with z | z
 ·exact .inl ⟨vs,z,rfl⟩
 ·exact .inr (.inl ⟨vs,z,rfl⟩)
end
end L3
section
namespace TS
set_option autoImplicit false
open PySem PyProof PyProof.Rows
noncomputable abbrev Ga:Bool->Keyed->Array Keyed->Nat->Nat->Nat->StateT SortSt Sem (Option Nat):=sortPriv% PySem.Builtin.gallop
noncomputable abbrev Lt:Keyed->Keyed->StateT SortSt Sem (Option Bool):=sortPriv% PySem.Builtin.lt
noncomputable abbrev El:Array Keyed->Nat->StateT SortSt Sem Keyed:=sortPriv% PySem.Builtin.elem
structure Cx where
 prog:Program
 w:World
 A:Around
 E:Value->Shared->Prop
 s:Shared
 kd:SortKind
 O:KeyOrd
 ky:Value->O.α
 ok:Value->Prop
 cmp: ∀ (E':Value->Shared->Prop) (x y:Value) (Q:Bool->Shared->Prop),ok x->ok y->Q (O.blt (ky x) (ky y)) s->wpAny (model prog w) A (keyLt' kd x y) Q E' s
noncomputable abbrev Cx.wp (c:Cx) {α:Type} (m:StateT SortSt Sem α) (Q:α->SortSt->Prop) (st:SortSt):Prop:=wpS (model c.prog c.w) c.A c.E c.s m Q st
noncomputable def Cx.lt (c:Cx) (x y:Keyed):Bool:=c.O.blt (c.ky x.1) (c.ky y.1)
noncomputable def Cx.le (c:Cx) (x y:Keyed):Prop:=c.lt y x=false
section
variable {c:Cx}
theorem Cx.le_refl (x:Keyed):c.le x x:=c.O.irrefl _
theorem Cx.le_of_lt {x y:Keyed} (h:c.lt x y=true):c.le x y:=KeyOrd.klt_asymm (O:=c.O) h
theorem Cx.le_trans {x y z:Keyed} (h:c.le x y) (h2:c.le y z):c.le x z:=KeyOrd.kle_trans (O:=c.O) h h2
theorem Cx.lt_of_le_lt {x y z:Keyed} (h:c.le x y) (h2:c.lt y z=true):c.lt x z=true:=KeyOrd.klt_of_kle_of_klt (O:=c.O) h h2
theorem zkS {x y:Keyed} {Q:Option Bool->SortSt->Prop} {st:SortSt} (hk:kindOf st=c.kd) (hx:c.ok x.1) (hy:c.ok y.1) (h:Q (some (c.lt x y)) st):c.wp (Lt x y) Q st:=by
 have e:=lt'_eq x y
 unfold lt' at e
 show wpS _ _ _ _ (Lt x y) Q st
 unfold Lt
 rw [e]
 refine qaM (wpS_get ?_)
 rw [hk]
 refine qaM (wpS_lift (wpAny_attempt (c.cmp _ _ _ _ hx hy ⟨rfl,?_⟩)))
 exact qaN h
theorem zbY {arr:Array Keyed} {i:Nat} {x:Keyed} {Q:Keyed->SortSt->Prop} {st:SortSt} (hx:arr[i]? = some x) (h:Q x st):c.wp (El arr i) Q st:=by
 have e:=elem'_eq arr i
 unfold elem' at e
 show wpS _ _ _ _ (El arr i) Q st
 unfold El
 rw [e,hx]
 exact qaN h
noncomputable def pb (c:Cx) (left:Bool) (key x:Keyed):Bool:=if left then c.lt x key else !c.lt key x
theorem ziL {left:Bool} {key:Keyed} {arr:Array Keyed} {i:Nat} {x:Keyed} {Q:Option Bool->SortSt->Prop} {st:SortSt} (hk:kindOf st=c.kd) (hx:arr[i]? = some x) (okk:c.ok key.1) (okx:c.ok x.1)
  (h:Q (some (pb c left key x)) st):
  c.wp (El arr i>>=fun x=>if left=true then Lt x key else Lt key x>>=fun r=>pure (Option.map (fun x=> !x) r)) Q st:=by
 refine qaM (zbY hx ?_)
 unfold pb at h
 cases left with
 | true=>exact zkS hk okx okk h
 | false=>exact qaM (zkS hk okk okx (qaN h))
theorem zgJ {left:Bool} {key:Keyed} {arr:Array Keyed} {base n hint:Nat} {Q:Option Nat->SortSt->Prop} {st:SortSt} (f:Nat->Keyed) (hk:kindOf st=c.kd) (okk:c.ok key.1)
  (hf: ∀ i,i<n->arr[base+i]? = some (f i)/\c.ok (f i).1)
  (hm: ∀ i j,i<=j->j<n->pb c left key (f j)=true->pb c left key (f i)=true) (hh:hint<n)
  (h: ∀ k,k<=n->(∀ i,i<k->pb c left key (f i)=true)->(∀ i,k<=i->i<n->pb c left key (f i)=false)->Q (some k) st):
  c.wp (Ga left key arr base n hint) Q st:=by
 show wpS _ _ _ _ (Ga left key arr base n hint) Q st
 have hmf: ∀ i j,i<=j->j<n->pb c left key (f i)=false->pb c left key (f j)=false:=by
  intro i j hij hj hi
  cases e:pb c left key (f j) with
  | false=>rfl
  | true=>rw [hm i j hij hj e] at hi;exact hi
 have third: ∀ (lo hi:Nat) (st':SortSt),st'=st->lo<=hi->hi<=n->(∀ i,i<lo->pb c left key (f i)=true)->(∀ i,hi<=i->i<n->pb c left key (f i)=false)->
   c.wp (forIn [:n] ((none:Option (Option Nat)),lo,hi) fun x __s=>
       if __s.snd.fst>=__s.snd.snd then pure (ForInStep.done (none,__s.snd.fst,__s.snd.snd))
       else (El arr (base+(__s.snd.fst+(__s.snd.snd - __s.snd.fst) / 2))>>=fun x=>if left=true then Lt x key else Lt key x>>=fun r=>pure (Option.map (fun x=> !x) r))>>=fun __x=>
         match __x with
           | some more=>
             if more=true then pure (ForInStep.yield (none,__s.snd.fst+(__s.snd.snd - __s.snd.fst) / 2+1,__s.snd.snd))
             else pure (ForInStep.yield (none,__s.snd.fst,__s.snd.fst+(__s.snd.snd - __s.snd.fst) / 2))
           | x=>pure (ForInStep.done (some none,__s.snd.fst,__s.snd.snd)))
    (fun r st'=>st'=st/\r.1=none/\r.2.2<=n/\(∀ i,i<r.2.2->pb c left key (f i)=true)/\(∀ i,r.2.2<=i->i<n->pb c left key (f i)=false)) st':=by
  intro lo hi st' est hlh hhn h1 h2
  refine wpS_forRange (I:=fun x r st'=>st'=st/\r.1=none/\r.2.1<=r.2.2/\r.2.2<=n/\r.2.2 - r.2.1<=n - x/\(∀ i,i<r.2.1->pb c left key (f i)=true)/\(∀ i,r.2.2<=i->i<n->pb c left key (f i)=false)) ?_ ?_ ⟨est,rfl,hlh,hhn,by show hi - lo<=n - 0;omega,h1,h2⟩
  ·rintro i ⟨r,lo,hi⟩ st' _ hi2 ⟨rfl,rfl,a1,a2,a3,a4,a5⟩
   dsimp only at a1 a2 a3 a4 a5 ⊢
   split
   ·refine qaN ⟨rfl,rfl,a2,?_,a5⟩
    intro j hj
    exact a4 j (by dsimp only at hj;omega)
   ·obtain ⟨g1,g2⟩:=hf (lo+(hi - lo) / 2) (by omega)
    refine qaM (ziL hk g1 okk g2 ?_)
    dsimp only
    cases e:pb c left key (f (lo+(hi - lo) / 2)) with
    | true=>
     rw [if_pos rfl]
     refine qaN ⟨rfl,rfl,?_,a2,?_,?_,a5⟩
     ·dsimp only;omega
     ·dsimp only;omega
     ·intro j hj;exact hm j _ (by dsimp only at hj;omega) (by omega) e
    | false=>
     rw [if_neg (by simp)]
     refine qaN ⟨rfl,rfl,?_,?_,?_,a4,?_⟩
     ·dsimp only;omega
     ·dsimp only;omega
     ·dsimp only;omega
     ·intro j hj hjn;exact hmf _ j hj hjn e
  ·rintro ⟨r,lo,hi⟩ st' ⟨rfl,rfl,a1,a2,a3,a4,a5⟩
   refine ⟨rfl,rfl,a2,?_,a5⟩
   dsimp only at a1 a3 a4 ⊢
   intro j hj;exact a4 j (by omega)
 obtain ⟨g1,g2⟩:=hf hint hh
 refine qaM ?_
 dsimp only
 refine ziL hk g1 okk g2 ?_
 dsimp only
 cases e:pb c left key (f hint) with
 | true=>
  rw [if_pos rfl]
  refine qaM (wpS_mono (wpS_forRange (I:=fun x r st'=>st'=st/\r.1=(none:Option (Option Nat))/\x+1<=r.2.2/\r.2.1<r.2.2/\hint+r.2.1<n/\pb c left key (f (hint+r.2.1))=true)
    (Q:=fun r st'=>st'=st/\r.1=none/\r.2.1<r.2.2/\hint+r.2.1<n/\pb c left key (f (hint+r.2.1))=true/\(n<=hint+r.2.2\/pb c left key (f (hint+r.2.2))=false)) ?_ ?_ ⟨rfl,rfl,qaG _,Nat.zero_lt_one,hh,by exact e⟩) ?_)
  ·rintro i ⟨r,lo,hi⟩ st' _ hi2 ⟨rfl,rfl,a1,a2,a3,a4⟩
   dsimp only at a1 a2 a3 a4 ⊢
   split
   ·exact qaN ⟨rfl,rfl,a2,a3,a4,.inl (by dsimp only;omega)⟩
   ·obtain ⟨g1,g2⟩:=hf (hint+hi) (by omega)
    refine qaM (ziL hk g1 okk g2 ?_)
    dsimp only
    cases e:pb c left key (f (hint+hi)) with
    | true=>
     rw [if_neg (by simp)]
     exact qaN ⟨rfl,rfl,by dsimp only;omega,by dsimp only;omega,by dsimp only;omega,e⟩
    | false=>
     rw [if_pos (by simp)]
     exact qaN ⟨rfl,rfl,a2,a3,a4,.inr e⟩
  ·rintro ⟨r,lo,hi⟩ st' ⟨rfl,rfl,a1,a2,a3,a4⟩
   exact ⟨rfl,rfl,a2,a3,a4,.inl (by dsimp only at a1 ⊢; omega)⟩
  ·rintro ⟨r,lo,hi⟩ st' ⟨rfl,rfl,a2,a3,a4,a5⟩
   dsimp only at a2 a3 a4 a5 ⊢
   refine qaM (wpS_mono (third _ _ _ rfl (by omega) (by omega) (fun i hi2=>hm i _ (by omega) a3 a4) ?_) ?_)
   ·intro i h1 h2
    rcases a5 with a5 | a5
    ·omega
    ·by_cases hq:hint+hi<n
     ·exact hmf _ i (by omega) h2 a5
     ·omega
   ·rintro ⟨r,lo,hi⟩ st' ⟨rfl,rfl,b1,b2,b3⟩
    exact qaN (h _ b1 b2 b3)
 | false=>
  rw [if_neg (by simp)]
  refine qaM (wpS_mono (wpS_forRange (I:=fun x r st'=>st'=st/\r.1=(none:Option (Option Nat))/\x+1<=r.2.2/\r.2.1<r.2.2/\r.2.1<=hint/\pb c left key (f (hint - r.2.1))=false)
    (Q:=fun r st'=>st'=st/\r.1=none/\r.2.1<r.2.2/\r.2.1<=hint/\pb c left key (f (hint - r.2.1))=false/\(hint<r.2.2\/pb c left key (f (hint - r.2.2))=true)) ?_ ?_ ⟨rfl,rfl,qaG _,Nat.zero_lt_one,Nat.zero_le _,by exact e⟩) ?_)
  ·rintro i ⟨r,lo,hi⟩ st' _ hi2 ⟨rfl,rfl,a1,a2,a3,a4⟩
   dsimp only at a1 a2 a3 a4 ⊢
   split
   ·exact qaN ⟨rfl,rfl,a2,a3,a4,.inl (by dsimp only;omega)⟩
   ·obtain ⟨g1,g2⟩:=hf (hint - hi) (by omega)
    refine qaM (ziL hk g1 okk g2 ?_)
    dsimp only
    cases e:pb c left key (f (hint - hi)) with
    | false=>
     rw [if_neg (by simp)]
     exact qaN ⟨rfl,rfl,by dsimp only;omega,by dsimp only;omega,by dsimp only;omega,e⟩
    | true=>
     rw [if_pos rfl]
     exact qaN ⟨rfl,rfl,a2,a3,a4,.inr e⟩
  ·rintro ⟨r,lo,hi⟩ st' ⟨rfl,rfl,a1,a2,a3,a4⟩
   exact ⟨rfl,rfl,a2,a3,a4,.inl (by dsimp only at a1 ⊢; omega)⟩
  ·rintro ⟨r,lo,hi⟩ st' ⟨rfl,rfl,a2,a3,a4,a5⟩
   dsimp only at a2 a3 a4 a5 ⊢
   refine qaM (wpS_mono (third _ _ _ rfl (by omega) (by omega) ?_ (fun i h1 h2=>hmf _ i h1 h2 a4)) ?_)
   ·intro i h1
    rcases a5 with a5 | a5
    ·omega
    ·exact hm i _ (by omega) (by omega) a5
   ·rintro ⟨r,lo,hi⟩ st' ⟨rfl,rfl,b1,b2,b3⟩
    exact qaN (h _ b1 b2 b3)
end
end TS
end
section
namespace TS
set_option autoImplicit false
open PySem PyProof PyProof.Rows
noncomputable abbrev ML:Array Keyed->Array Keyed->StateT SortSt Sem (Array Keyed):=sortPriv% PySem.Builtin.mergeLo
noncomputable abbrev MH:Array Keyed->Array Keyed->StateT SortSt Sem (Array Keyed):=sortPriv% PySem.Builtin.mergeHi
noncomputable abbrev Sg:Nat->StateT SortSt Sem Unit:=sortPriv% PySem.Builtin.setMinGallop
structure Sm (st st':SortSt):Prop where
 k:kindOf st'=kindOf st
 a:arrOf st'=arrOf st
 p:pendingOf st'=pendingOf st
 f:failedOf st'=failedOf st
theorem Sm.refl (st:SortSt):Sm st st:=⟨rfl,rfl,rfl,rfl⟩
theorem Sm.g {st st':SortSt} (h:Sm st st') (n:Nat):Sm st (SortSt.mk' (kindOf st') (arrOf st') (pendingOf st') n (failedOf st')):=⟨h.k,h.a,h.p,h.f⟩
structure Mg (r:Keyed->Keyed->Prop) (O L R T:List Keyed):Prop where
 s:O.Pairwise r
 l: ∀ x,x∈O-> ∀ y,y∈L->r x y
 r: ∀ x,x∈O-> ∀ y,y∈R->r x y
 p:(O++(L++R)).Perm T
section
variable {r:Keyed->Keyed->Prop} {O L R T X:List Keyed}
theorem Mg.symm (h:Mg r O L R T):Mg r O R L T:=⟨h.s,h.r,h.l,(List.Perm.append_left O List.perm_append_comm).trans h.p⟩
theorem Mg.stepL (h:Mg r O (X++L) R T) (hX:(X++L).Pairwise r) (hR: ∀ x,x∈X-> ∀ y,y∈R->r x y):Mg r (O++X) L R T:=by
 rw [List.pairwise_append] at hX
 refine ⟨?_,?_,?_,?_⟩
 ·rw [List.pairwise_append]
  exact ⟨h.s,hX.1,fun x hx y hy=>h.l x hx y (List.mem_append_left _ hy)⟩
 ·intro x hx y hy
  rcases List.mem_append.mp hx with hx | hx
  ·exact h.l x hx y (qah _ hy)
  ·exact hX.2.2 x hx y hy
 ·intro x hx y hy
  rcases List.mem_append.mp hx with hx | hx
  ·exact h.r x hx y hy
  ·exact hR x hx y hy
 ·have:=h.p
  simpa [List.append_assoc] using this
theorem Mg.fin (h:Mg r O L R T) (hs:(L++R).Pairwise r):(O++(L++R)).Pairwise r/\(O++(L++R)).Perm T:=by
 refine ⟨?_,h.p⟩
 rw [List.pairwise_append]
 refine ⟨h.s,hs,fun x hx y hy=> ?_⟩
 rcases List.mem_append.mp hy with hy | hy
 ·exact h.l x hx y hy
 ·exact h.r x hx y hy
end
section
variable {c:Cx}
theorem zjF {g:Nat} {Q:Unit->SortSt->Prop} {st:SortSt} (h:Q () (SortSt.mk' (kindOf st) (arrOf st) (pendingOf st) g (failedOf st))):c.wp (Sg g) Q st:=by
 exact wpS_modify h
theorem zdN {n:String} {Q:Unit->SortSt->Prop} {st:SortSt} (h:Q () st):c.wp (liftM (rule n):StateT SortSt Sem Unit) Q st:=
 wpS_lift (wpAny_rule ⟨rfl,h⟩)
noncomputable def srt (c:Cx) (a:Array Keyed):Prop:=a.toList.Pairwise c.le
noncomputable def okA (c:Cx) (a:Array Keyed):Prop:= ∀ x,x∈a.toList->c.ok x.1
theorem zbz {a:Array Keyed} (h:okA c a) {i:Nat} (hi:i<a.size): ∃ x,a[i]? = some x/\c.ok x.1:=
 ⟨a[i],getElem?_pos a i hi,h _ (by simp)⟩
theorem zd7 {a:Array Keyed} (h:srt c a) {i j:Nat} {x y:Keyed} (hij:i<=j) (hx:a[i]? = some x) (hy:a[j]? = some y):c.le x y:=by
 rcases Nat.lt_or_ge i j with hlt | hge
 ·obtain ⟨hj,rfl⟩:=Array.getElem?_eq_some_iff.mp hy
  obtain ⟨hi,rfl⟩:=Array.getElem?_eq_some_iff.mp hx
  have:=List.pairwise_iff_getElem.mp h i j (by simpa using hi) (by simpa using hj) hlt
  simpa using this
 ·have:i=j:=by omega
  subst this
  rw [hx] at hy
  cases hy
  exact Cx.le_refl _
structure MgA (c:Cx) (a b out:Array Keyed) (ia ib:Nat):Prop where
 m:Mg c.le out.toList (a.toList.drop ia) (b.toList.drop ib) (a.toList++b.toList)
 z:out.size=ia+ib
 la:ia<=a.size
 lb:ib<=b.size
noncomputable def Fi (c:Cx) (a b res:Array Keyed):Prop:=srt c res/\res.toList.Perm (a.toList++b.toList)
theorem zdq {l:List Keyed} {i k:Nat} {x:Keyed} (h:x∈(l.drop i).take k): ∃ j,j<k/\l[i+j]? = some x:=by
 obtain ⟨j,hj,e⟩:=List.getElem_of_mem h
 refine ⟨j,by simp at hj;omega,?_⟩
 rw [List.getElem_take,List.getElem_drop] at e
 rw [List.getElem?_eq_getElem (by simp at hj;omega),e]
theorem zf9 {l:List Keyed} {i:Nat} {x:Keyed} (h:x∈l.drop i): ∃ j,l[i+j]? = some x:=by
 obtain ⟨j,hj,e⟩:=List.getElem_of_mem h
 refine ⟨j,?_⟩
 rw [List.getElem_drop] at e
 rw [List.getElem?_eq_getElem (by simp at hj;omega),e]
variable {a b out:Array Keyed} {ia ib k:Nat}
theorem MgA.appA (h:MgA c a b out ia ib) (ha:srt c a) (hb:srt c b) {y:Keyed} (hy:b[ib]? = some y) (hk:ia+k<=a.size)
  (hx: ∀ i x,i<k->a[ia+i]? = some x->c.le x y):MgA c a b (out++a.extract ia (ia+k)) (ia+k) ib:=by
 refine ⟨?_,?_,hk,h.lb⟩
 ·have e:a.toList.drop ia=(a.toList.drop ia).take k++a.toList.drop (ia+k):=by
   rw [<- List.drop_drop];exact (List.take_append_drop k _).symm
  have hm:=h.m
  rw [e] at hm
  have e2:(out++a.extract ia (ia+k)).toList=out.toList++(a.toList.drop ia).take k:=by
   simp [List.extract,Nat.add_sub_cancel_left]
  rw [e2]
  refine hm.stepL (by rw [<- e];exact List.Pairwise.sublist (List.drop_sublist _ _) ha) ?_
  intro x hxm z hz
  obtain ⟨j,hj,ej⟩:=zdq hxm
  obtain ⟨i,ei⟩:=zf9 hz
  rw [qag] at ej ei
  exact Cx.le_trans (hx j x hj ej) (zd7 hb (Nat.le_add_right _ _) hy ei)
 ·rw [Array.size_append,Array.size_extract,h.z]
  omega
theorem MgA.appB (h:MgA c a b out ia ib) (ha:srt c a) (hb:srt c b) {x:Keyed} (hx:a[ia]? = some x) (hk:ib+k<=b.size)
  (hy: ∀ i y,i<k->b[ib+i]? = some y->c.le y x):MgA c a b (out++b.extract ib (ib+k)) ia (ib+k):=by
 refine ⟨?_,?_,h.la,hk⟩
 ·have e:b.toList.drop ib=(b.toList.drop ib).take k++b.toList.drop (ib+k):=by
   rw [<- List.drop_drop];exact (List.take_append_drop k _).symm
  have hm:=h.m.symm
  rw [e] at hm
  have e2:(out++b.extract ib (ib+k)).toList=out.toList++(b.toList.drop ib).take k:=by
   simp [List.extract,Nat.add_sub_cancel_left]
  rw [e2]
  refine (hm.stepL (by rw [<- e];exact List.Pairwise.sublist (List.drop_sublist _ _) hb) ?_).symm
  intro x hxm z hz
  obtain ⟨j,hj,ej⟩:=zdq hxm
  obtain ⟨i,ei⟩:=zf9 hz
  rw [qag] at ej ei
  exact Cx.le_trans (hy j x hj ej) (zd7 ha (Nat.le_add_right _ _) hx ei)
 ·rw [Array.size_append,Array.size_extract,h.z]
  omega
theorem zgq {i:Nat} {x:Keyed} (hx:a[i]? = some x):out.push x=out++a.extract i (i+1):=by
 obtain ⟨hi,rfl⟩:=Array.getElem?_eq_some_iff.mp hx
 apply Array.ext'
 simp only [Array.toList_push,Array.toList_append,Array.toList_extract,List.extract,Nat.add_sub_cancel_left]
 rw [List.drop_eq_getElem_cons (by simpa using hi)]
 simp
theorem MgA.pushA (h:MgA c a b out ia ib) (ha:srt c a) (hb:srt c b) {x y:Keyed} (hx:a[ia]? = some x) (hy:b[ib]? = some y) (hxy:c.le x y):MgA c a b (out.push x) (ia+1) ib:=by
 rw [zgq hx]
 refine h.appA ha hb hy (Array.getElem?_eq_some_iff.mp hx).1 ?_
 intro i z hi hz
 have:i=0:=by omega
 subst this
 rw [Nat.add_zero,hx] at hz
 cases hz
 exact hxy
theorem MgA.pushB (h:MgA c a b out ia ib) (ha:srt c a) (hb:srt c b) {x y:Keyed} (hx:a[ia]? = some x) (hy:b[ib]? = some y) (hxy:c.le y x):MgA c a b (out.push y) ia (ib+1):=by
 rw [zgq hy]
 refine h.appB ha hb hx (Array.getElem?_eq_some_iff.mp hy).1 ?_
 intro i z hi hz
 have:i=0:=by omega
 subst this
 rw [Nat.add_zero,hy] at hz
 cases hz
 exact hxy
theorem MgA.done (h:MgA c a b out ia ib) (ha:srt c a) (hb:srt c b) (he:ia=a.size\/ib=b.size):Fi c a b (out++a.extract ia++b.extract ib):=by
 have e:(out++a.extract ia++b.extract ib).toList=out.toList++(a.toList.drop ia++b.toList.drop ib):=by
  simp [List.extract,List.take_of_length_le]
 have hs:(a.toList.drop ia++b.toList.drop ib).Pairwise c.le:=by
  rcases he with he | he
  ·rw [List.drop_eq_nil_of_le (by simp [he]),List.nil_append]
   exact List.Pairwise.sublist (List.drop_sublist _ _) hb
  ·rw [List.drop_eq_nil_of_le (as:=b.toList) (by simp [he]),List.append_nil]
   exact List.Pairwise.sublist (List.drop_sublist _ _) ha
 obtain ⟨h1,h2⟩:=h.m.fin hs
 exact ⟨by unfold srt;rw [e];exact h1,by rw [e];exact h2⟩
theorem MgA.last (h:MgA c a b out ia ib) (_ha:srt c a) (hb:srt c b) (he:ia+1=a.size) (hl: ∀ x,a[ia]? = some x-> ∀ y,y∈b.toList->c.le y x):Fi c a b (out++b.extract ib++a.extract ia):=by
 have e:(out++b.extract ib++a.extract ia).toList=out.toList++(b.toList.drop ib++a.toList.drop ia):=by
  simp [List.extract,List.take_of_length_le]
 have ed:a.toList.drop ia=[a[ia]]:=by
  rw [List.drop_eq_getElem_cons (by simp;omega),List.drop_eq_nil_of_le (by simp;omega)]
  simp
 have hs:(b.toList.drop ib++a.toList.drop ia).Pairwise c.le:=by
  rw [ed,List.pairwise_append]
  refine ⟨List.Pairwise.sublist (List.drop_sublist _ _) hb,List.pairwise_singleton _ _,?_⟩
  intro x hx y hy
  rw [List.mem_singleton.mp hy]
  exact hl _ (getElem?_pos a ia (by omega)) x (List.mem_of_mem_drop hx)
 obtain ⟨h1,h2⟩:=h.m.symm.fin hs
 exact ⟨by unfold srt;rw [e];exact h1,by rw [e];exact h2⟩
end
end TS
end
section
namespace TS
set_option autoImplicit false
open PySem PyProof PyProof.Rows
section
variable {c:Cx} {a b:Array Keyed}
theorem zaE {α:Type} {p:Prop} [Decidable p] {x y:StateT SortSt Sem α} {Q:α->SortSt->Prop} {st:SortSt} (h1:p->c.wp x Q st) (h2: ¬p->c.wp y Q st):c.wp (if p then x else y) Q st:=by
 by_cases h:p
 ·rw [if_pos h];exact h1 h
 ·rw [if_neg h];exact h2 h
theorem za9 {α:Type} {i j:Nat} {x y:StateT SortSt Sem α} {Q:α->SortSt->Prop} {st:SortSt} (h1:i=j->c.wp x Q st) (h2: ¬i=j->c.wp y Q st):c.wp (if (i==j)=true then x else y) Q st:=
 zaE (fun h=>h1 (by simpa using h)) (fun h=>h2 (by simpa using h))
theorem zpn {st:SortSt} {base n hint:Nat} {y:Keyed} {Q:Option Nat->SortSt->Prop} (hk:kindOf st=c.kd) (oy:c.ok y.1) (hi:hint<n)
  (ha: ∀ i j x z,i<=j->j<n->a[base+i]? = some x->a[base+j]? = some z->c.le x z) (oa: ∀ i,i<n-> ∃ x,a[base+i]? = some x/\c.ok x.1)
  (h: ∀ k,k<=n->(∀ i x,i<k->a[base+i]? = some x->c.le x y)->(∀ i x,k<=i->i<n->a[base+i]? = some x->c.lt y x=true)->Q (some k) st):
  c.wp (Ga false y a base n hint) Q st:=by
 refine zgJ (fun i=>a[base+i]?.getD y) hk oy ?_ ?_ hi ?_
 ·intro i hi2
  obtain ⟨x,ex,ox⟩:=oa i hi2
  exact ⟨by rw [ex];rfl,by rw [ex];exact ox⟩
 ·intro i j hij hj hp
  obtain ⟨x,ex,ox⟩:=oa i (by omega)
  obtain ⟨z,ez,oz⟩:=oa j hj
  rw [ez] at hp
  rw [ex]
  have hxz:=ha i j x z hij hj ex ez
  simp only [pb,qaq,if_false,Bool.not_eq_true',Option.getD_some] at hp ⊢
  exact Cx.le_trans (c:=c) hxz hp
 ·intro k hk1 h1 h2
  refine h k hk1 ?_ ?_
  ·intro i x hi2 ex
   have:=h1 i hi2
   rw [ex] at this
   simpa [pb,Cx.le] using this
  ·intro i x hi2 hin ex
   have:=h2 i hi2 hin
   rw [ex] at this
   simpa [pb] using this
theorem zsb {st:SortSt} {ib n hint:Nat} {x:Keyed} {Q:Option Nat->SortSt->Prop} (hk:kindOf st=c.kd) (ox:c.ok x.1) (hi:hint<n)
  (hb: ∀ i j y z,i<=j->j<n->b[ib+i]? = some y->b[ib+j]? = some z->c.le y z) (ob: ∀ i,i<n-> ∃ y,b[ib+i]? = some y/\c.ok y.1)
  (h: ∀ k,k<=n->(∀ i y,i<k->b[ib+i]? = some y->c.lt y x=true)->(∀ i y,k<=i->i<n->b[ib+i]? = some y->c.le x y)->Q (some k) st):
  c.wp (Ga true x b ib n hint) Q st:=by
 refine zgJ (fun i=>b[ib+i]?.getD x) hk ox ?_ ?_ hi ?_
 ·intro i hi2
  obtain ⟨y,ey,oy⟩:=ob i (by omega)
  exact ⟨by rw [ey];rfl,by rw [ey];exact oy⟩
 ·intro i j hij hj hp
  obtain ⟨y,ey,oy⟩:=ob i (by omega)
  obtain ⟨z,ez,oz⟩:=ob j (by omega)
  rw [ez] at hp
  rw [ey]
  have hyz:=hb i j y z hij hj ey ez
  simp only [pb,if_true,Option.getD_some] at hp ⊢
  exact Cx.lt_of_le_lt (c:=c) hyz hp
 ·intro k hk1 h1 h2
  refine h k hk1 ?_ ?_
  ·intro i y hi2 ey
   have:=h1 i hi2
   rw [ey] at this
   simpa [pb] using this
  ·intro i y hi2 hin ey
   have:=h2 i hi2 hin
   rw [ey] at this
   simpa [pb,Cx.le] using this
theorem zns {st:SortSt} {ia:Nat} {y:Keyed} {Q:Option Nat->SortSt->Prop} (hk:kindOf st=c.kd) (ha:srt c a) (oa:okA c a) (oy:c.ok y.1) (hi:ia<a.size)
  (h: ∀ k,ia+k<=a.size->(∀ i x,i<k->a[ia+i]? = some x->c.le x y)->(∀ i x,k<=i->a[ia+i]? = some x->c.lt y x=true)->Q (some k) st):
  c.wp (Ga false y a ia (a.size - ia) 0) Q st:=
 zpn hk oy (by omega) (fun i j x z hij _ hx hz=>zd7 ha (by omega) hx hz) (fun i hi=>zbz oa (by omega)) fun k h1 h2 h3=>h k (by omega) h2 (fun i x hi hx=>h3 i x hi (by have:=(Array.getElem?_eq_some_iff.mp hx).1;omega) hx)
theorem ziY {st:SortSt} {ib n hint:Nat} {x:Keyed} {Q:Option Nat->SortSt->Prop} (hk:kindOf st=c.kd) (hb:srt c b) (ob:okA c b) (ox:c.ok x.1) (hi:hint<n) (hn:ib+n<=b.size)
  (h: ∀ k,k<=n->(∀ i y,i<k->b[ib+i]? = some y->c.lt y x=true)->(∀ i y,k<=i->i<n->b[ib+i]? = some y->c.le x y)->Q (some k) st):
  c.wp (Ga true x b ib n hint) Q st:=
 zsb hk ox hi (fun i j x z hij _ hx hz=>zd7 hb (by omega) hx hz) (fun i hi=>zbz ob (by omega)) h
noncomputable abbrev StL:=ForInStep (Option (Array Keyed)×Array Keyed×Nat×Nat×Nat×Nat×Nat)
structure Ex (c:Cx) (a b:Array Keyed) (N:Nat) (Q:StL->SortSt->Prop) (st:SortSt):Prop where
 d1: ∀ res t,Fi c a b res->Q (.done (some res,t)) st
 d2: ∀ o i j t,MgA c a b o i j->i+1<a.size->j<b.size->N<=o.size->Q (.done (none,o,i,j,t)) st/\Q (.yield (none,o,i,j,t)) st
 hl: ∀ (o:Array Keyed) (i j:Nat),MgA c a b o i j->i+1=a.size->Fi c a b (o++b.extract j++a.extract i)
 ha:srt c a
 hb:srt c b
 oa:okA c a
 ob:okA c b
 hk:kindOf st=c.kd
noncomputable def T4 (a b o:Array Keyed) (i j g k l:Nat):StateT SortSt Sem StL:=El a i>>=fun z=>
 if (i+1+1==a.size)=true then pure (.done (some (o.push z++b.extract j++a.extract (i+1)),o.push z,i+1,j,g,k,l))
 else if (decide (k<7) && decide (l<7))=true then pure (.done (none,o.push z,i+1,j,g,k,l)) else pure (.yield (none,o.push z,i+1,j,g,k,l))
noncomputable def T3 (a b o:Array Keyed) (i j g k v:Nat):StateT SortSt Sem StL:=El b j>>=fun y=>
 if (j+1==b.size)=true then pure (.done (some (o.push y++a.extract i++b.extract (j+1)),o.push y,i,j+1,g,k,v))
 else El a i>>=fun z=>Ga true z b (j+1) (b.size - (j+1)) 0>>=fun x=>match x with
  | some l=>if l>0 then
    if (j+1+l==b.size)=true then pure (.done (some (o.push y++b.extract (j+1) (j+1+l)++a.extract i++b.extract (j+1+l)),o.push y++b.extract (j+1) (j+1+l),i,j+1+l,g,k,l))
    else T4 a b (o.push y++b.extract (j+1) (j+1+l)) i (j+1+l) g k l
   else T4 a b (o.push y) i (j+1) g k l
  | _=>pure (.done (some (o.push y++a.extract i++b.extract (j+1)),o.push y,i,j+1,g,k,v))
noncomputable def T2 (a b o:Array Keyed) (i j g u v:Nat):StateT SortSt Sem StL:=El b j>>=fun y=>Ga false y a i (a.size - i) 0>>=fun x=>match x with
  | some k=>if k>0 then
    if (i+k+1==a.size)=true then pure (.done (some (o++a.extract i (i+k)++b.extract j++a.extract (i+k)),o++a.extract i (i+k),i+k,j,g,k,v))
    else if (i+k==a.size)=true then pure (.done (some (o++a.extract i (i+k)++a.extract (i+k)++b.extract j),o++a.extract i (i+k),i+k,j,g,k,v))
    else T3 a b (o++a.extract i (i+k)) (i+k) j g k v
   else T3 a b o i j g k v
  | _=>pure (.done (some (o++a.extract i++b.extract j),o,i,j,g,u,v))
section
variable {N:Nat} {Q:StL->SortSt->Prop} {st:SortSt} {o:Array Keyed} {i j g k l u v:Nat}
theorem zrF (x:Ex c a b N Q st) (m:MgA c a b o i j) (b1:i+1<a.size) (b2:j<b.size) (b3:N<=o.size) {z w:Keyed} (ew:b[j]? = some w) (ez:a[i]? = some z) (lzw:c.le z w):c.wp (T4 a b o i j g k l) Q st:=by
 refine qaM (zbY ez ?_)
 have m2:=m.pushA x.ha x.hb ez ew lzw
 have d:=fun b1=>x.d2 _ _ _ (g,k,l) m2 b1 b2 (by rw [Array.size_push];omega)
 refine za9 (fun p3=>qaN (x.d1 _ _ (x.hl _ _ _ m2 p3))) (fun p3=>zaE (fun _=>qaN (d (by omega)).1) (fun _=>qaN (d (by omega)).2))
theorem zs6 (x:Ex c a b N Q st) (m:MgA c a b o i j) (b1:i+1<a.size) (b2:j<b.size) (b3:N<=o.size) {y z:Keyed} (ey:b[j]? = some y) (ez:a[i]? = some z) (oz:c.ok z.1) (lyz:c.le y z):c.wp (T3 a b o i j g k v) Q st:=by
 refine qaM (zbY ey ?_)
 have m2:=m.pushB x.ha x.hb ez ey lyz
 have b4:N<=(o.push y).size:=by rw [Array.size_push];omega
 refine za9 (fun p=>qaN (x.d1 _ _ (m2.done x.ha x.hb (.inr p)))) (fun p=> ?_)
 refine qaM (zbY ez (qaM (ziY x.hk x.hb x.ob oz (by omega) (by omega) ?_)))
 intro l hl1 hl2 hl3
 have m3:=m2.appB x.ha x.hb ez (by omega) (fun i y hi hy=>Cx.le_of_lt (hl2 i y hi hy))
 refine zaE (fun l0=>za9 (fun p2=>qaN (x.d1 _ _ (m3.done x.ha x.hb (.inr p2)))) (fun p2=> ?_)) (fun l0=> ?_)
 ·obtain ⟨w,ew,ow⟩:=zbz x.ob (i:=j+1+l) (by omega)
  exact zrF x m3 b1 (by omega) (by rw [Array.size_append];omega) ew ez (hl3 l w (qaG _) (by omega) ew)
 ·have el:l=0:=by omega
  subst el
  obtain ⟨w,ew,ow⟩:=zbz x.ob (i:=j+1) (by omega)
  exact zrF x m2 b1 (by omega) b4 ew ez (hl3 0 w (qaG _) (by omega) ew)
theorem ztr (x:Ex c a b N Q st) (m:MgA c a b o i j) (b1:i+1<a.size) (b2:j<b.size) (b3:N<=o.size):c.wp (T2 a b o i j g u v) Q st:=by
 obtain ⟨y,ey,oy⟩:=zbz x.ob b2
 refine qaM (zbY ey (qaM (zns x.hk x.ha x.oa oy (by omega) ?_)))
 intro k hk1 hk2 hk3
 have m2:=m.appA x.ha x.hb ey hk1 hk2
 refine zaE (fun k0=>za9 (fun q=>qaN (x.d1 _ _ (x.hl _ _ _ m2 q))) (fun q=>za9 (fun q2=>qaN (x.d1 _ _ (m2.done x.ha x.hb (.inl q2)))) (fun q2=> ?_))) (fun k0=> ?_)
 ·obtain ⟨z,ez,oz⟩:=zbz x.oa (i:=i+k) (by omega)
  exact zs6 x m2 (by omega) b2 (by rw [Array.size_append];omega) ey ez oz (Cx.le_of_lt (hk3 k z (qaG _) ez))
 ·have ek:k=0:=by omega
  subst ek
  obtain ⟨z,ez,oz⟩:=zbz x.oa (i:=i) (by omega)
  exact zs6 x m b1 b2 b3 ey ez oz (Cx.le_of_lt (hk3 0 z (qaG _) ez))
end
noncomputable abbrev S5:=Option (Array Keyed)×Array Keyed×Nat×Nat×Nat
noncomputable abbrev S6:=Option (Array Keyed)×Array Keyed×Nat×Nat×Nat×Nat
noncomputable abbrev S7:=Option (Array Keyed)×Array Keyed×Nat×Nat×Nat×Nat×Nat
noncomputable def zvt (st:SortSt):Nat:=(sortPriv% PySem.Builtin.SortState.minGallop) st
noncomputable def A1 (a b:Array Keyed) (g:Nat) (o:Array Keyed) (i j u v:Nat):StateT SortSt Sem (ForInStep S6):=El b j>>=fun y=>El a i>>=fun z=>Lt y z>>=fun x=>match x with
 | some w=>if w=true then El b j>>=fun y=>if (j+1==b.size)=true then pure (.done (some (o.push y++a.extract i++b.extract (j+1)),o.push y,i,j+1,0,v+1)) else if v+1>=g then pure (.done (none,o.push y,i,j+1,0,v+1)) else pure (.yield (none,o.push y,i,j+1,0,v+1))
  else El a i>>=fun z=>if (i+1+1==a.size)=true then pure (.done (some (o.push z++b.extract j++a.extract (i+1)),o.push z,i+1,j,u+1,0)) else if u+1>=g then pure (.done (none,o.push z,i+1,j,u+1,0)) else pure (.yield (none,o.push z,i+1,j,u+1,0))
 | _=>pure (.done (some (o++a.extract i++b.extract j),o,i,j,u,v))
noncomputable def A2 (a b:Array Keyed) (o:Array Keyed) (i j g u v:Nat):StateT SortSt Sem (ForInStep S7):=
 if g>1 then Sg (g - 1)>>=fun _=>T2 a b o i j (g - 1) u v else Sg g>>=fun _=>T2 a b o i j g u v
noncomputable def A5 (r:S7):StateT SortSt Sem (ForInStep S5):=match r.1 with
 | some x=>pure (.done (some x,r.2.1,r.2.2.1,r.2.2.2.1,r.2.2.2.2.1))
 | none=>Sg (r.2.2.2.2.1+1)>>=fun _=>pure (.yield (none,r.2.1,r.2.2.1,r.2.2.2.1,r.2.2.2.2.1+1))
noncomputable def A4 (a b:Array Keyed) (g:Nat) (r:S6):StateT SortSt Sem (ForInStep S5):=match r.1 with
 | some x=>pure (.done (some x,r.2.1,r.2.2.1,r.2.2.2.1,g))
 | none=>(liftM (rule "list.sort.gallop"):StateT SortSt Sem Unit)>>=fun _=>forIn [0:a.size+b.size] ((none,r.2.1,r.2.2.1,r.2.2.2.1,g+1,r.2.2.2.2.1,r.2.2.2.2.2):S7) (fun _ r=>A2 a b r.2.1 r.2.2.1 r.2.2.2.1 r.2.2.2.2.1 r.2.2.2.2.2.1 r.2.2.2.2.2.2)>>=fun r=>A5 r
noncomputable def A3 (a b:Array Keyed) (o:Array Keyed) (i j g:Nat):StateT SortSt Sem (ForInStep S5):=
 forIn [0:a.size+b.size] ((none,o,i,j,0,0):S6) (fun _ r=>A1 a b g r.2.1 r.2.2.1 r.2.2.2.1 r.2.2.2.2.1 r.2.2.2.2.2)>>=fun r=>A4 a b g r
noncomputable def ML' (a b:Array Keyed):StateT SortSt Sem (Array Keyed):=(liftM (rule "list.sort.merge-lo"):StateT SortSt Sem Unit)>>=fun _=>El b 0>>=fun y=>
 if (1==b.size)=true then pure (#[y]++a.extract 0++b.extract 1) else if (0+1==a.size)=true then pure (#[y]++b.extract 1++a.extract 0)
 else get>>=fun st=>forIn [0:a.size+b.size] ((none, #[y],0,1,zvt st):S5) (fun _ r=>A3 a b r.2.1 r.2.2.1 r.2.2.2.1 r.2.2.2.2)>>=fun r=>match r.1 with
  | some x=>pure x
  | none=>liftM (unsupported "internal:list.sort.merge-bound":Sem (Array Keyed))
theorem bnd {α β:Type} {m m':StateT SortSt Sem α} {f f':α->StateT SortSt Sem β} (h:m=m') (h2: ∀ x,f x=f' x):(m>>=f)=(m'>>=f'):=by
 rw [h,funext h2]
theorem zqZ {β:Type} {n:Nat} {x:β} {f f':Nat->β->StateT SortSt Sem (ForInStep β)} (h: ∀ i r,f i r=f' i r):forIn [0:n] x f=forIn [0:n] x f':=by
 rw [show f=f' from funext fun i=>funext (h i)]
theorem ztX (a b:Array Keyed):ML a b=ML' a b:=by
 refine bnd rfl fun _=>bnd rfl fun y=> ?_
 by_cases h1:(1==b.size)=true
 ·exact (if_pos h1).trans (if_pos h1).symm
 refine (if_neg h1).trans (Eq.trans ?_ (if_neg h1).symm)
 by_cases h2:(0+1==a.size)=true
 ·exact (if_pos h2).trans (if_pos h2).symm
 refine (if_neg h2).trans (Eq.trans ?_ (if_neg h2).symm)
 refine bnd rfl fun st=>bnd (zqZ fun _ r=> ?_) fun r=> ?_
 ·refine bnd (zqZ fun _ r=> ?_) fun r'=> ?_
  ·rfl
  ·obtain ⟨q,r'⟩:=r'
   cases q with
   | some x=>rfl
   | none=>
    refine bnd rfl fun _=>bnd (zqZ fun _ r=> ?_) fun r3=> ?_
    ·rfl
    ·obtain ⟨q,r'⟩:=r3
     cases q with
     | some x=>rfl
     | none=>rfl
 ·obtain ⟨q,r⟩:=r
  cases q with
  | some x=>rfl
  | none=>rfl
noncomputable def Lo (c:Cx) (a b:Array Keyed) (N:Nat) (o:Array Keyed) (i j:Nat):Prop:=MgA c a b o i j/\i+1<a.size/\j<b.size/\N<=o.size
theorem zuj {st1:SortSt} {o:Array Keyed} {i j g u v N:Nat} {Q:ForInStep S6->SortSt->Prop} (hk:kindOf st1=c.kd) (ha:srt c a) (hb:srt c b) (oa:okA c a) (ob:okA c b)
  (hl: ∀ (o:Array Keyed) (i j:Nat),MgA c a b o i j->i+1=a.size->Fi c a b (o++b.extract j++a.extract i)) (m:Lo c a b N o i j)
  (d1: ∀ res t,Fi c a b res->Q (.done (some res,t)) st1) (d2: ∀ o i j t,Lo c a b (N+1) o i j->Q (.done (none,o,i,j,t)) st1/\Q (.yield (none,o,i,j,t)) st1):c.wp (A1 a b g o i j u v) Q st1:=by
 obtain ⟨m1,b1,b2,b3⟩:=m
 obtain ⟨y,ey,oy⟩:=zbz ob b2
 obtain ⟨z,ez,oz⟩:=zbz oa (i:=i) (by omega)
 refine qaM (zbY ey (qaM (zbY ez (qaM (zkS hk oy oz ?_)))))
 refine zaE (fun eq=>qaM (zbY ey ?_)) (fun eq=>qaM (zbY ez ?_))
 ·have m2:=m1.pushB ha hb ez ey (Cx.le_of_lt eq)
  have d:=fun t q=>d2 _ _ _ t ⟨m2,b1,q,by rw [Array.size_push];omega⟩
  exact za9 (fun q=>qaN (d1 _ _ (m2.done ha hb (.inr q)))) (fun q=>zaE (fun _=>qaN (d _ (by omega)).1) (fun _=>qaN (d _ (by omega)).2))
 ·have m2:=m1.pushA ha hb ez ey (by simpa [Cx.le] using eq)
  have d:=fun t q=>d2 _ _ _ t ⟨m2,q,b2,by rw [Array.size_push];omega⟩
  exact za9 (fun q=>qaN (d1 _ _ (hl _ _ _ m2 q))) (fun q=>zaE (fun _=>qaN (d _ (by omega)).1) (fun _=>qaN (d _ (by omega)).2))
theorem ztL {st st1:SortSt} {o:Array Keyed} {i j g u v N:Nat} {Q:ForInStep S7->SortSt->Prop} (s0:Sm st st1) (hk:kindOf st=c.kd) (ha:srt c a) (hb:srt c b) (oa:okA c a) (ob:okA c b)
  (hl: ∀ (o:Array Keyed) (i j:Nat),MgA c a b o i j->i+1=a.size->Fi c a b (o++b.extract j++a.extract i)) (m:Lo c a b N o i j)
  (d1: ∀ st' res t,Sm st st'->Fi c a b res->Q (.done (some res,t)) st') (d2: ∀ st' o i j t,Sm st st'->Lo c a b N o i j->Q (.done (none,o,i,j,t)) st'/\Q (.yield (none,o,i,j,t)) st'):c.wp (A2 a b o i j g u v) Q st1:=by
 have E:=fun g=>Ex.mk (c:=c) (a:=a) (b:=b) (N:=N) (st:=SortSt.mk' (kindOf st1) (arrOf st1) (pendingOf st1) g (failedOf st1)) (Q:=Q) (fun res t f=>d1 _ res t (s0.g _) f) (fun o i j t m b1 b2 b3=>d2 _ o i j t (s0.g _) ⟨m,b1,b2,b3⟩) hl ha hb oa ob ((s0.g g).k.trans hk)
 exact zaE (fun _=>qaM (zjF (ztr (E _) m.1 m.2.1 m.2.2.1 m.2.2.2))) (fun _=>qaM (zjF (ztr (E _) m.1 m.2.1 m.2.2.1 m.2.2.2)))
theorem zvh {st:SortSt} {Q:Array Keyed->SortSt->Prop} (hk:kindOf st=c.kd) (ha:srt c a) (hb:srt c b) (oa:okA c a) (ob:okA c b) (na:0<a.size) (nb:0<b.size)
  (hfirst: ∀ x y,a[0]? = some x->b[0]? = some y->c.le y x) (hlast: ∀ x,a[a.size - 1]? = some x-> ∀ y,y∈b.toList->c.le y x)
  (h: ∀ res st',Sm st st'->Fi c a b res->Q res st'):c.wp (ML a b) Q st:=by
 rw [ztX]
 obtain ⟨y0,ey0,oy0⟩:=zbz ob nb
 obtain ⟨x0,ex0,ox0⟩:=zbz oa na
 have hl: ∀ (o:Array Keyed) (i j:Nat),MgA c a b o i j->i+1=a.size->Fi c a b (o++b.extract j++a.extract i):=by
  intro o i j hm hi
  refine hm.last ha hb hi ?_
  intro x hx
  exact hlast x (by rw [<- hi];exact hx)
 have hst:MgA c a b #[y0] 0 1:=by
  have:=(MgA.mk (c:=c) (a:=a) (b:=b) (out:= #[]) (ia:=0) (ib:=0) ⟨List.Pairwise.nil,by simp,by simp,by simp⟩ rfl (Nat.zero_le _) (Nat.zero_le _)).pushB ha hb ex0 ey0 (hfirst _ _ ex0 ey0)
  exact this
 refine qaM (zdN (qaM (zbY ey0 (za9 (fun h1=>qaN (h _ _ (Sm.refl _) (hst.done ha hb (.inr h1)))) (fun h1=>za9 (fun h2=>qaN (h _ _ (Sm.refl _) (hl _ _ _ hst h2))) (fun h2=> ?_))))))
 refine qaM (wpS_get ?_)
 refine qaM (wpS_mono (wpS_forRange (I:=fun x r st'=>r.1=none/\Sm st st'/\Lo c a b (x+1) r.2.1 r.2.2.1 r.2.2.2.1) (Q:=fun r st'=> ∃ res,r.1=some res/\Sm st st'/\Fi c a b res) ?_ ?_ ⟨rfl,Sm.refl _,hst,show 0+1<a.size by omega,show 1<b.size by omega,qaG _⟩) ?_)
 ·rintro xo r st1 - hx1 ⟨-, s1,m1⟩
  refine qaM (wpS_mono (wpS_forRange (I:=fun x r st'=>r.1=none/\Sm st st'/\Lo c a b (xo+1+x) r.2.1 r.2.2.1 r.2.2.2.1)
    (Q:=fun r st'=>(∃ res,r.1=some res/\Sm st st'/\Fi c a b res)\/(r.1=none/\Sm st st'/\Lo c a b (xo+2) r.2.1 r.2.2.1 r.2.2.2.1)) ?_ ?_ ⟨rfl,s1,m1⟩) ?_)
  ·rintro x r st1 - hx2 ⟨-, s1,m1⟩
   refine zuj (s1.k.trans hk) ha hb oa ob hl m1 (fun res t f=> .inl ⟨res,rfl,s1,f⟩) fun o i j t m=>⟨.inr ⟨rfl,s1,m.1,m.2.1,m.2.2.1,?_⟩,⟨rfl,s1,m⟩⟩
   have:=m.2.2.2
   show xo+2<=o.size
   omega
  ·rintro r st1 ⟨e,s1,m1,b1,b2,b3⟩
   refine .inr ⟨e,s1,m1,b1,b2,?_⟩
   omega
  ·rintro ⟨r,t⟩ st1 (⟨res,e,s1,f1⟩ | ⟨e,s1,m1⟩)
   ·cases e
    exact qaN ⟨res,rfl,s1,f1⟩
   cases e
   refine qaM (zdN ?_)
   refine qaM (wpS_mono (wpS_forRange (I:=fun x r st'=>r.1=none/\Sm st st'/\Lo c a b (xo+2) r.2.1 r.2.2.1 r.2.2.2.1)
     (Q:=fun r st'=>(∃ res,r.1=some res/\Sm st st'/\Fi c a b res)\/(r.1=none/\Sm st st'/\Lo c a b (xo+2) r.2.1 r.2.2.1 r.2.2.2.1)) ?_ ?_ ⟨rfl,s1,m1⟩) ?_)
   ·rintro x r st1 - hx2 ⟨-, s0,m1⟩
    exact ztL s0 hk ha hb oa ob hl m1 (fun st' res t s0 f=> .inl ⟨res,rfl,s0,f⟩) (fun st' o i j t s0 m=>⟨.inr ⟨rfl,s0,m⟩,⟨rfl,s0,m⟩⟩)
   ·rintro r st1 ⟨e,s1,m1⟩
    exact .inr ⟨e,s1,m1⟩
   ·rintro ⟨r,t⟩ st1 (⟨res,e,s1,f1⟩ | ⟨e,s1,m1⟩)
    ·cases e
     exact qaN ⟨res,rfl,s1,f1⟩
    cases e
    exact qaM (zjF (qaN ⟨rfl,s1.g _,m1⟩))
 ·rintro r st1 ⟨e,s1,m1,b1,b2,b3⟩
  have z1:=m1.z
  omega
 ·rintro ⟨r,t⟩ st1 ⟨res,e,s1,f1⟩
  cases e
  exact qaN (h _ _ s1 f1)
end
end TS
end
section
namespace TS
set_option autoImplicit false
open PySem PyProof PyProof.Rows
section
variable {c:Cx} {a b out:Array Keyed} {na nb at':Nat}
structure MgH (c:Cx) (a b out:Array Keyed) (na nb:Nat):Prop where
 m:Mg (fun x y=>c.le y x) out.toList (a.toList.take na).reverse (b.toList.take nb).reverse (a.toList++b.toList)
 z:out.size+na+nb=a.size+b.size
 la:na<=a.size
 lb:nb<=b.size
theorem zfO {l:List Keyed} {i n:Nat} (h:i<=n):(l.take n).reverse=((l.take n).drop i).reverse++(l.take i).reverse:=by
 rw [<- List.reverse_append]
 congr 1
 have:l.take i=(l.take n).take i:=by rw [List.take_take,Nat.min_eq_left h]
 rw [this,List.take_append_drop]
theorem zhg {l:Array Keyed} (n:Nat) (h:srt c l):((l.toList.take n).reverse).Pairwise (fun x y=>c.le y x):=by
 rw [List.pairwise_reverse]
 exact List.Pairwise.sublist (List.take_sublist _ _) h
theorem zcO {l:List Keyed} {i n:Nat} {x:Keyed} (h:x∈((l.take n).drop i).reverse): ∃ j,i<=j/\j<n/\l[j]? = some x:=by
 rw [List.mem_reverse] at h
 obtain ⟨j,e⟩:=zf9 h
 have hj:=qab.mp e
 obtain ⟨hj,e2⟩:=hj
 rw [List.length_take] at hj
 rw [List.getElem_take] at e2
 exact ⟨i+j,by omega,by omega,by rw [List.getElem?_eq_getElem (by omega),e2]⟩
theorem zeb {l:List Keyed} {n:Nat} {x:Keyed} (h:x∈(l.take n).reverse): ∃ j,j<n/\l[j]? = some x:=by
 obtain ⟨j,_,h2,h3⟩:=zcO (i:=0) (by simpa using h)
 exact ⟨j,h2,h3⟩
theorem zk1 {i n:Nat}:(out++(a.extract i n).reverse).toList=out.toList++((a.toList.take n).drop i).reverse:=by
 simp [List.extract,List.drop_take]
theorem MgH.appA (h:MgH c a b out na nb) (ha:srt c a) (hb:srt c b) {y:Keyed} (n0:0<nb) (hy:b[nb - 1]? = some y) (hk:at'<=na)
  (hx: ∀ i x,at'<=i->i<na->a[i]? = some x->c.le y x):MgH c a b (out++(a.extract at' na).reverse) at' nb:=by
 have hla:=h.la
 refine ⟨?_,?_,by omega,h.lb⟩
 ·have hm:=h.m
  have hp:=zhg na ha
  rw [zfO hk] at hm hp
  rw [zk1]
  refine hm.stepL hp ?_
  intro x hxm z hz
  obtain ⟨j,j1,j2,ej⟩:=zcO hxm
  obtain ⟨i,i1,ei⟩:=zeb hz
  rw [qag] at ej ei
  exact Cx.le_trans (zd7 hb (by omega) ei hy) (hx j x j1 j2 ej)
 ·have:=h.z
  rw [Array.size_append,Array.size_reverse,Array.size_extract]
  omega
theorem MgH.appB (h:MgH c a b out na nb) (ha:srt c a) (hb:srt c b) {x:Keyed} (n0:0<na) (hx:a[na - 1]? = some x) (hk:at'<=nb)
  (hy: ∀ i y,at'<=i->i<nb->b[i]? = some y->c.le x y):MgH c a b (out++(b.extract at' nb).reverse) na at':=by
 have hlb:=h.lb
 refine ⟨?_,?_,h.la,by omega⟩
 ·have hm:=h.m.symm
  have hp:=zhg nb hb
  rw [zfO hk] at hm hp
  rw [zk1]
  refine (hm.stepL hp ?_).symm
  intro y hym z hz
  obtain ⟨j,j1,j2,ej⟩:=zcO hym
  obtain ⟨i,i1,ei⟩:=zeb hz
  rw [qag] at ej ei
  exact Cx.le_trans (zd7 ha (by omega) ei hx) (hy j y j1 j2 ej)
 ·have:=h.z
  rw [Array.size_append,Array.size_reverse,Array.size_extract]
  omega
theorem zjq {x:Keyed} (n0:0<na) (hx:a[na - 1]? = some x):out.push x=out++(a.extract (na - 1) na).reverse:=by
 rw [zgq hx,Nat.sub_add_cancel n0]
 congr 1
 apply Array.ext'
 obtain ⟨hi,rfl⟩:=Array.getElem?_eq_some_iff.mp hx
 rw [Array.toList_reverse]
 simp only [Array.toList_extract,List.extract]
 rw [show na - (na - 1)=1 by omega,List.drop_eq_getElem_cons (by simpa using hi)]
 simp
theorem MgH.pushA (h:MgH c a b out na nb) (ha:srt c a) (hb:srt c b) {x y:Keyed} (n0:0<nb) (n1:0<na) (hx:a[na - 1]? = some x) (hy:b[nb - 1]? = some y) (hxy:c.le y x):MgH c a b (out.push x) (na - 1) nb:=by
 rw [zjq n1 hx]
 refine h.appA ha hb n0 hy (Nat.sub_le _ _) ?_
 intro i z h1 h2 hz
 have:i=na - 1:=by omega
 subst this
 rw [hx] at hz
 cases hz
 exact hxy
theorem MgH.pushB (h:MgH c a b out na nb) (ha:srt c a) (hb:srt c b) {x y:Keyed} (n0:0<nb) (n1:0<na) (hx:a[na - 1]? = some x) (hy:b[nb - 1]? = some y) (hxy:c.le x y):MgH c a b (out.push y) na (nb - 1):=by
 rw [zjq n0 hy]
 refine h.appB ha hb n1 hx (Nat.sub_le _ _) ?_
 intro i z h1 h2 hz
 have:i=nb - 1:=by omega
 subst this
 rw [hy] at hz
 cases hz
 exact hxy
theorem zkX {r:List Keyed} {O L R T:List Keyed} (h:Mg (fun x y=>c.le y x) O L R T) (hs:(L++R).Pairwise (fun x y=>c.le y x)) (e:r=(O++(L++R)).reverse):r.Pairwise c.le/\r.Perm T:=by
 obtain ⟨h1,h2⟩:=h.fin hs
 subst e
 exact ⟨by rw [List.pairwise_reverse];exact h1,(List.reverse_perm _).trans h2⟩
theorem MgH.done (h:MgH c a b out na nb) (ha:srt c a) (hb:srt c b) (he:na=0\/nb=0):Fi c a b (a.extract 0 na++b.extract 0 nb++out.reverse):=by
 have hs:((b.toList.take nb).reverse++(a.toList.take na).reverse).Pairwise (fun x y=>c.le y x):=by
  rcases he with he | he
  ·subst he;simpa using zhg nb hb
  ·subst he;simpa using zhg na ha
 exact zkX h.m.symm hs (by simp [List.extract])
theorem MgH.first (h:MgH c a b out na nb) (ha:srt c a) (_hb:srt c b) (he:nb=1) (hl: ∀ y,b[0]? = some y-> ∀ x,x∈a.toList->c.le y x):Fi c a b (b.extract 0 nb++a.extract 0 na++out.reverse):=by
 subst he
 have hlb:=h.lb
 have ed:b.toList.take 1=[b[0]]:=by
  obtain ⟨l⟩:=b
  cases l with
  | nil=>simp at hlb
  | cons x l=>simp
 have hs:((a.toList.take na).reverse++(b.toList.take 1).reverse).Pairwise (fun x y=>c.le y x):=by
  rw [ed,List.pairwise_append]
  refine ⟨zhg na ha,List.pairwise_singleton _ _,?_⟩
  intro x hx y hy
  rw [List.mem_singleton.mp hy]
  exact hl _ (getElem?_pos b 0 (by omega)) x (List.mem_of_mem_take (List.mem_reverse.mp hx))
 exact zkX h.m hs (by simp [List.extract])
noncomputable abbrev H5:=Option (Array Keyed)×Nat×Nat×Array Keyed×Nat
noncomputable abbrev H6:=Option (Array Keyed)×Nat×Nat×Array Keyed×Nat×Nat
noncomputable abbrev H7:=Option (Array Keyed)×Nat×Nat×Array Keyed×Nat×Nat×Nat
noncomputable def Hi (c:Cx) (a b:Array Keyed) (N:Nat) (p q:Nat) (o:Array Keyed):Prop:=MgH c a b o p q/\0<p/\1<q/\N<=o.size
structure Ey (c:Cx) (a b:Array Keyed) (N:Nat) (Q:ForInStep H7->SortSt->Prop) (st:SortSt):Prop where
 d1: ∀ res t,Fi c a b res->Q (.done (some res,t)) st
 d2: ∀ p q o t,Hi c a b N p q o->Q (.done (none,p,q,o,t)) st/\Q (.yield (none,p,q,o,t)) st
 hl: ∀ (o:Array Keyed) (i j:Nat),MgH c a b o i j->j=1->Fi c a b (b.extract 0 j++a.extract 0 i++o.reverse)
 ha:srt c a
 hb:srt c b
 oa:okA c a
 ob:okA c b
 hk:kindOf st=c.kd
noncomputable def U4 (a b:Array Keyed) (p q:Nat) (o:Array Keyed) (g k l:Nat):StateT SortSt Sem (ForInStep H7):=El a (p - 1)>>=fun z=>
 if (p - 1==0)=true then pure (.done (some (a.extract 0 (p - 1)++b.extract 0 q++(o.push z).reverse),p - 1,q,o.push z,g,k,l))
 else if (decide (k<7) && decide (l<7))=true then pure (.done (none,p - 1,q,o.push z,g,k,l)) else pure (.yield (none,p - 1,q,o.push z,g,k,l))
noncomputable def U3 (a b:Array Keyed) (p q:Nat) (o:Array Keyed) (g k v:Nat):StateT SortSt Sem (ForInStep H7):=El b (q - 1)>>=fun y=>
 if (q - 1==1)=true then pure (.done (some (b.extract 0 (q - 1)++a.extract 0 p++(o.push y).reverse),p,q - 1,o.push y,g,k,v))
 else El a (p - 1)>>=fun z=>Ga true z b 0 (q - 1) (q - 1 - 1)>>=fun x=>match x with
  | some l=>if q - 1 - l>0 then
    if (l==1)=true then pure (.done (some (b.extract 0 l++a.extract 0 p++(o.push y++(b.extract l (q - 1)).reverse).reverse),p,l,o.push y++(b.extract l (q - 1)).reverse,g,k,q - 1 - l))
    else if (l==0)=true then pure (.done (some (a.extract 0 p++b.extract 0 l++(o.push y++(b.extract l (q - 1)).reverse).reverse),p,l,o.push y++(b.extract l (q - 1)).reverse,g,k,q - 1 - l))
    else U4 a b p l (o.push y++(b.extract l (q - 1)).reverse) g k (q - 1 - l)
   else U4 a b p (q - 1) (o.push y) g k (q - 1 - l)
  | _=>pure (.done (some (a.extract 0 p++b.extract 0 (q - 1)++(o.push y).reverse),p,q - 1,o.push y,g,k,v))
noncomputable def U2 (a b:Array Keyed) (p q:Nat) (o:Array Keyed) (g u v:Nat):StateT SortSt Sem (ForInStep H7):=El b (q - 1)>>=fun y=>Ga false y a 0 p (p - 1)>>=fun x=>match x with
  | some k=>if p - k>0 then
    if (k==0)=true then pure (.done (some (a.extract 0 k++b.extract 0 q++(o++(a.extract k p).reverse).reverse),k,q,o++(a.extract k p).reverse,g,p - k,v))
    else U3 a b k q (o++(a.extract k p).reverse) g (p - k) v
   else U3 a b p q o g (p - k) v
  | _=>pure (.done (some (a.extract 0 p++b.extract 0 q++o.reverse),p,q,o,g,u,v))
noncomputable def Z1 (a b:Array Keyed) (g:Nat) (p q:Nat) (o:Array Keyed) (u v:Nat):StateT SortSt Sem (ForInStep H6):=El b (q - 1)>>=fun y=>El a (p - 1)>>=fun z=>Lt y z>>=fun x=>match x with
 | some w=>if w=true then El a (p - 1)>>=fun z=>if (p - 1==0)=true then pure (.done (some (a.extract 0 (p - 1)++b.extract 0 q++(o.push z).reverse),p - 1,q,o.push z,u+1,0)) else if u+1>=g then pure (.done (none,p - 1,q,o.push z,u+1,0)) else pure (.yield (none,p - 1,q,o.push z,u+1,0))
  else El b (q - 1)>>=fun y=>if (q - 1==1)=true then pure (.done (some (b.extract 0 (q - 1)++a.extract 0 p++(o.push y).reverse),p,q - 1,o.push y,0,v+1)) else if v+1>=g then pure (.done (none,p,q - 1,o.push y,0,v+1)) else pure (.yield (none,p,q - 1,o.push y,0,v+1))
 | _=>pure (.done (some (a.extract 0 p++b.extract 0 q++o.reverse),p,q,o,u,v))
noncomputable def Z2 (a b:Array Keyed) (p q:Nat) (o:Array Keyed) (g u v:Nat):StateT SortSt Sem (ForInStep H7):=
 if g>1 then Sg (g - 1)>>=fun _=>U2 a b p q o (g - 1) u v else Sg g>>=fun _=>U2 a b p q o g u v
noncomputable def Z5 (r:H7):StateT SortSt Sem (ForInStep H5):=match r.1 with
 | some x=>pure (.done (some x,r.2.1,r.2.2.1,r.2.2.2.1,r.2.2.2.2.1))
 | none=>Sg (r.2.2.2.2.1+1)>>=fun _=>pure (.yield (none,r.2.1,r.2.2.1,r.2.2.2.1,r.2.2.2.2.1+1))
noncomputable def Z4 (a b:Array Keyed) (g:Nat) (r:H6):StateT SortSt Sem (ForInStep H5):=match r.1 with
 | some x=>pure (.done (some x,r.2.1,r.2.2.1,r.2.2.2.1,g))
 | none=>(liftM (rule "list.sort.gallop"):StateT SortSt Sem Unit)>>=fun _=>forIn [0:a.size+b.size] ((none,r.2.1,r.2.2.1,r.2.2.2.1,g+1,r.2.2.2.2.1,r.2.2.2.2.2):H7) (fun _ r=>Z2 a b r.2.1 r.2.2.1 r.2.2.2.1 r.2.2.2.2.1 r.2.2.2.2.2.1 r.2.2.2.2.2.2)>>=fun r=>Z5 r
noncomputable def Z3 (a b:Array Keyed) (p q:Nat) (o:Array Keyed) (g:Nat):StateT SortSt Sem (ForInStep H5):=
 forIn [0:a.size+b.size] ((none,p,q,o,0,0):H6) (fun _ r=>Z1 a b g r.2.1 r.2.2.1 r.2.2.2.1 r.2.2.2.2.1 r.2.2.2.2.2)>>=fun r=>Z4 a b g r
noncomputable def MH' (a b:Array Keyed):StateT SortSt Sem (Array Keyed):=(liftM (rule "list.sort.merge-hi"):StateT SortSt Sem Unit)>>=fun _=>El a (a.size - 1)>>=fun z=>
 if (a.size - 1==0)=true then pure (a.extract 0 (a.size - 1)++b.extract 0 b.size++(#[z]:Array Keyed).reverse) else if (b.size==1)=true then pure (b.extract 0 b.size++a.extract 0 (a.size - 1)++(#[z]:Array Keyed).reverse)
 else get>>=fun st=>forIn [0:a.size+b.size] ((none,a.size - 1,b.size, #[z],zvt st):H5) (fun _ r=>Z3 a b r.2.1 r.2.2.1 r.2.2.2.1 r.2.2.2.2)>>=fun r=>match r.1 with
  | some x=>pure x
  | none=>liftM (unsupported "internal:list.sort.merge-bound":Sem (Array Keyed))
theorem zuL (a b:Array Keyed):MH a b=MH' a b:=by
 refine bnd rfl fun _=>bnd rfl fun y=> ?_
 by_cases h1:(a.size - 1==0)=true
 ·exact (if_pos h1).trans (if_pos h1).symm
 refine (if_neg h1).trans (Eq.trans ?_ (if_neg h1).symm)
 by_cases h2:(b.size==1)=true
 ·exact (if_pos h2).trans (if_pos h2).symm
 refine (if_neg h2).trans (Eq.trans ?_ (if_neg h2).symm)
 refine bnd rfl fun st=>bnd (zqZ fun _ r=> ?_) fun r=> ?_
 ·refine bnd (zqZ fun _ r=> ?_) fun r'=> ?_
  ·rfl
  ·obtain ⟨q,r'⟩:=r'
   cases q with
   | some x=>rfl
   | none=>
    refine bnd rfl fun _=>bnd (zqZ fun _ r=> ?_) fun r3=> ?_
    ·rfl
    ·obtain ⟨q,r'⟩:=r3
     cases q with
     | some x=>rfl
     | none=>rfl
 ·obtain ⟨q,r⟩:=r
  cases q with
  | some x=>rfl
  | none=>rfl
section
variable {N:Nat} {Q:ForInStep H7->SortSt->Prop} {st:SortSt} {o:Array Keyed} {p q g k l u v:Nat}
theorem ztj (x:Ey c a b N Q st) (m:Hi c a b N p q o) {z w:Keyed} (ew:b[q - 1]? = some w) (ez:a[p - 1]? = some z) (lwz:c.le w z):c.wp (U4 a b p q o g k l) Q st:=by
 obtain ⟨m,b1,b2,b3⟩:=m
 refine qaM (zbY ez ?_)
 have m2:=m.pushA x.ha x.hb (by omega) b1 ez ew lwz
 have d:=fun b1=>x.d2 _ _ _ (g,k,l) ⟨m2,b1,b2,by rw [Array.size_push];omega⟩
 exact za9 (fun p3=>qaN (x.d1 _ _ (m2.done x.ha x.hb (.inl p3)))) (fun p3=>zaE (fun _=>qaN (d (by omega)).1) (fun _=>qaN (d (by omega)).2))
theorem zsL (x:Ey c a b N Q st) (m:Hi c a b N p q o) {y z:Keyed} (ey:b[q - 1]? = some y) (ez:a[p - 1]? = some z) (oz:c.ok z.1) (lzy:c.le z y):c.wp (U3 a b p q o g k v) Q st:=by
 obtain ⟨m,b1,b2,b3⟩:=m
 have lb:=m.lb
 refine qaM (zbY ey ?_)
 have m2:=m.pushB x.ha x.hb (by omega) b1 ez ey lzy
 have b4:N<=(o.push y).size:=by rw [Array.size_push];omega
 refine za9 (fun t=>qaN (x.d1 _ _ (x.hl _ _ _ m2 t))) (fun t=> ?_)
 refine qaM (zbY ez (qaM (ziY x.hk x.hb x.ob oz (by omega) (by omega) ?_)))
 intro l hl1 hl2 hl3
 simp only [Nat.zero_add] at hl2 hl3
 have m3:=m2.appB x.ha x.hb b1 ez hl1 (fun i y h1 h2 hy=>hl3 i y h1 h2 hy)
 refine zaE (fun l0=>za9 (fun t2=>qaN (x.d1 _ _ (x.hl _ _ _ m3 t2))) (fun t2=>za9 (fun t3=>qaN (x.d1 _ _ (m3.done x.ha x.hb (.inr t3)))) (fun t3=> ?_))) (fun l0=> ?_)
 ·obtain ⟨f,ef,of⟩:=zbz x.ob (i:=l - 1) (by omega)
  exact ztj x ⟨m3,b1,by omega,by rw [Array.size_append];omega⟩ ef ez (Cx.le_of_lt (hl2 (l - 1) f (by omega) ef))
 ·have el:l=q - 1:=by omega
  subst el
  obtain ⟨f,ef,of⟩:=zbz x.ob (i:=q - 1 - 1) (by omega)
  exact ztj x ⟨m2,b1,by omega,b4⟩ ef ez (Cx.le_of_lt (hl2 _ f (by omega) ef))
theorem zq8 (x:Ey c a b N Q st) (m:Hi c a b N p q o):c.wp (U2 a b p q o g u v) Q st:=by
 obtain ⟨m,b1,b2,b3⟩:=m
 have la:=m.la
 have lb:=m.lb
 obtain ⟨y,ey,oy⟩:=zbz x.ob (i:=q - 1) (by omega)
 refine qaM (zbY ey (qaM (zpn x.hk oy (by omega) (fun i j x' z hij _ hx hz=>zd7 x.ha (by omega) hx hz) (fun i hi=>zbz x.oa (by omega)) ?_)))
 intro k hk1 hk2 hk3
 simp only [Nat.zero_add] at hk2 hk3
 have m2:=m.appA x.ha x.hb (by omega) ey hk1 (fun i x h1 h2 hx=>Cx.le_of_lt (hk3 i x h1 h2 hx))
 refine zaE (fun k0=>za9 (fun w=>qaN (x.d1 _ _ (m2.done x.ha x.hb (.inl w)))) (fun w=> ?_)) (fun k0=> ?_)
 ·obtain ⟨z,ez,oz⟩:=zbz x.oa (i:=k - 1) (by omega)
  exact zsL x ⟨m2,by omega,b2,by rw [Array.size_append];omega⟩ ey ez oz (hk2 (k - 1) z (by omega) ez)
 ·have ek:k=p:=by omega
  subst ek
  obtain ⟨z,ez,oz⟩:=zbz x.oa (i:=k - 1) (by omega)
  exact zsL x ⟨m,b1,b2,b3⟩ ey ez oz (hk2 (k - 1) z (by omega) ez)
end
theorem ztY {st1:SortSt} {o:Array Keyed} {p q g u v N:Nat} {Q:ForInStep H6->SortSt->Prop} (hk:kindOf st1=c.kd) (ha:srt c a) (hb:srt c b) (oa:okA c a) (ob:okA c b)
  (hl: ∀ (o:Array Keyed) (i j:Nat),MgH c a b o i j->j=1->Fi c a b (b.extract 0 j++a.extract 0 i++o.reverse)) (m:Hi c a b N p q o)
  (d1: ∀ res t,Fi c a b res->Q (.done (some res,t)) st1) (d2: ∀ p q o t,Hi c a b (N+1) p q o->Q (.done (none,p,q,o,t)) st1/\Q (.yield (none,p,q,o,t)) st1):c.wp (Z1 a b g p q o u v) Q st1:=by
 obtain ⟨m1,b1,b2,b3⟩:=m
 have la:=m1.la
 have lb:=m1.lb
 obtain ⟨y,ey,oy⟩:=zbz ob (i:=q - 1) (by omega)
 obtain ⟨z,ez,oz⟩:=zbz oa (i:=p - 1) (by omega)
 refine qaM (zbY ey (qaM (zbY ez (qaM (zkS hk oy oz ?_)))))
 refine zaE (fun eq=>qaM (zbY ez ?_)) (fun eq=>qaM (zbY ey ?_))
 ·have m2:=m1.pushA ha hb (by omega) b1 ez ey (Cx.le_of_lt eq)
  have d:=fun t w=>d2 _ _ _ t ⟨m2,w,b2,by rw [Array.size_push];omega⟩
  exact za9 (fun w=>qaN (d1 _ _ (m2.done ha hb (.inl w)))) (fun w=>zaE (fun _=>qaN (d _ (by omega)).1) (fun _=>qaN (d _ (by omega)).2))
 ·have m2:=m1.pushB ha hb (by omega) b1 ez ey (by simpa [Cx.le] using eq)
  have d:=fun t w=>d2 _ _ _ t ⟨m2,b1,w,by rw [Array.size_push];omega⟩
  exact za9 (fun w=>qaN (d1 _ _ (hl _ _ _ m2 w))) (fun w=>zaE (fun _=>qaN (d _ (by omega)).1) (fun _=>qaN (d _ (by omega)).2))
theorem zt9 {st st1:SortSt} {o:Array Keyed} {p q g u v N:Nat} {Q:ForInStep H7->SortSt->Prop} (s0:Sm st st1) (hk:kindOf st=c.kd) (ha:srt c a) (hb:srt c b) (oa:okA c a) (ob:okA c b)
  (hl: ∀ (o:Array Keyed) (i j:Nat),MgH c a b o i j->j=1->Fi c a b (b.extract 0 j++a.extract 0 i++o.reverse)) (m:Hi c a b N p q o)
  (d1: ∀ st' res t,Sm st st'->Fi c a b res->Q (.done (some res,t)) st') (d2: ∀ st' p q o t,Sm st st'->Hi c a b N p q o->Q (.done (none,p,q,o,t)) st'/\Q (.yield (none,p,q,o,t)) st'):c.wp (Z2 a b p q o g u v) Q st1:=by
 have E:=fun g=>Ey.mk (c:=c) (a:=a) (b:=b) (N:=N) (st:=SortSt.mk' (kindOf st1) (arrOf st1) (pendingOf st1) g (failedOf st1)) (Q:=Q) (fun res t f=>d1 _ res t (s0.g _) f) (fun p q o t m=>d2 _ p q o t (s0.g _) m) hl ha hb oa ob ((s0.g g).k.trans hk)
 exact zaE (fun _=>qaM (zjF (zq8 (E _) m))) (fun _=>qaM (zjF (zq8 (E _) m)))
theorem zuO {st:SortSt} {Q:Array Keyed->SortSt->Prop} (hk:kindOf st=c.kd) (ha:srt c a) (hb:srt c b) (oa:okA c a) (ob:okA c b) (na:0<a.size) (nb:0<b.size)
  (hfirst: ∀ y,b[0]? = some y-> ∀ x,x∈a.toList->c.le y x) (hlast: ∀ x y,a[a.size - 1]? = some x->b[b.size - 1]? = some y->c.le y x)
  (h: ∀ res st',Sm st st'->Fi c a b res->Q res st'):c.wp (MH a b) Q st:=by
 rw [zuL]
 obtain ⟨y0,ey0,oy0⟩:=zbz ob (i:=b.size - 1) (by omega)
 obtain ⟨x0,ex0,ox0⟩:=zbz oa (i:=a.size - 1) (by omega)
 have hl: ∀ (o:Array Keyed) (i j:Nat),MgH c a b o i j->j=1->Fi c a b (b.extract 0 j++a.extract 0 i++o.reverse):=fun o i j hm hi=>hm.first ha hb hi hfirst
 have hst:MgH c a b #[x0] (a.size - 1) b.size:=by
  have:=(MgH.mk (c:=c) (a:=a) (b:=b) (out:= #[]) (na:=a.size) (nb:=b.size) ⟨List.Pairwise.nil,by simp,by simp,by
    simp only [List.nil_append]
    rw [<- qam, <-qam,List.take_length,List.take_length]
    exact (List.reverse_perm _).append (List.reverse_perm _)⟩ (by simp) (qaG _) (qaG _)).pushA ha hb nb na ex0 ey0 (hlast _ _ ex0 ey0)
  exact this
 refine qaM (zdN (qaM (zbY ex0 (za9 (fun h1=>qaN (h _ _ (Sm.refl _) (hst.done ha hb (.inl h1)))) (fun h1=>za9 (fun h2=>qaN (h _ _ (Sm.refl _) (hl _ _ _ hst h2))) (fun h2=> ?_))))))
 refine qaM (wpS_get ?_)
 refine qaM (wpS_mono (wpS_forRange (I:=fun x r st'=>r.1=none/\Sm st st'/\Hi c a b (x+1) r.2.1 r.2.2.1 r.2.2.2.1) (Q:=fun r st'=> ∃ res,r.1=some res/\Sm st st'/\Fi c a b res) ?_ ?_ ⟨rfl,Sm.refl _,hst,show 0<a.size - 1 by omega,show 1<b.size by omega,qaG _⟩) ?_)
 ·rintro xo r st1 - hx1 ⟨-, s1,m1⟩
  refine qaM (wpS_mono (wpS_forRange (I:=fun x r st'=>r.1=none/\Sm st st'/\Hi c a b (xo+1+x) r.2.1 r.2.2.1 r.2.2.2.1)
    (Q:=fun r st'=>(∃ res,r.1=some res/\Sm st st'/\Fi c a b res)\/(r.1=none/\Sm st st'/\Hi c a b (xo+2) r.2.1 r.2.2.1 r.2.2.2.1)) ?_ ?_ ⟨rfl,s1,m1⟩) ?_)
  ·rintro x r st1 - hx2 ⟨-, s1,m1⟩
   refine ztY (s1.k.trans hk) ha hb oa ob hl m1 (fun res t f=> .inl ⟨res,rfl,s1,f⟩) fun p q o t m=>⟨.inr ⟨rfl,s1,m.1,m.2.1,m.2.2.1,?_⟩,⟨rfl,s1,m⟩⟩
   have:=m.2.2.2
   show xo+2<=o.size
   omega
  ·rintro r st1 ⟨e,s1,m1,b1,b2,b3⟩
   refine .inr ⟨e,s1,m1,b1,b2,?_⟩
   omega
  ·rintro ⟨r,t⟩ st1 (⟨res,e,s1,f1⟩ | ⟨e,s1,m1⟩)
   ·cases e
    exact qaN ⟨res,rfl,s1,f1⟩
   cases e
   refine qaM (zdN ?_)
   refine qaM (wpS_mono (wpS_forRange (I:=fun x r st'=>r.1=none/\Sm st st'/\Hi c a b (xo+2) r.2.1 r.2.2.1 r.2.2.2.1)
     (Q:=fun r st'=>(∃ res,r.1=some res/\Sm st st'/\Fi c a b res)\/(r.1=none/\Sm st st'/\Hi c a b (xo+2) r.2.1 r.2.2.1 r.2.2.2.1)) ?_ ?_ ⟨rfl,s1,m1⟩) ?_)
   ·rintro x r st1 - hx2 ⟨-, s0,m1⟩
    exact zt9 s0 hk ha hb oa ob hl m1 (fun st' res t s0 f=> .inl ⟨res,rfl,s0,f⟩) (fun st' p q o t s0 m=>⟨.inr ⟨rfl,s0,m⟩,⟨rfl,s0,m⟩⟩)
   ·rintro r st1 ⟨e,s1,m1⟩
    exact .inr ⟨e,s1,m1⟩
   ·rintro ⟨r,t⟩ st1 (⟨res,e,s1,f1⟩ | ⟨e,s1,m1⟩)
    ·cases e
     exact qaN ⟨res,rfl,s1,f1⟩
    cases e
    exact qaM (zjF (qaN ⟨rfl,s1.g _,m1⟩))
 ·rintro r st1 ⟨e,s1,m1,b1,b2,b3⟩
  have z1:=m1.z
  omega
 ·rintro ⟨r,t⟩ st1 ⟨res,e,s1,f1⟩
  cases e
  exact qaN (h _ _ s1 f1)
end
end TS
end
section
namespace TS
set_option autoImplicit false
open PySem PyProof PyProof.Rows
noncomputable abbrev MAt:Nat->StateT SortSt Sem Bool:=sortPriv% PySem.Builtin.mergeAt
theorem zoT {s:Nat}: ∀ (l:List Keyed) (n:Nat) (xs:Array Keyed),s+n+l.length<=xs.size-> ∀ k:Nat,
  ((l.zipIdx n).foldl (fun a x=>a.setIfInBounds (s+x.2) x.1) xs)[k]? = if s+n<=k/\k<s+n+l.length then l[k - (s+n)]? else xs[k]?
 | [],n,xs,_,k=>by rw [if_neg (by simp)];rfl
 | x::l,n,xs,h,k=>by
  rw [qav] at h
  rw [List.zipIdx_cons,List.foldl_cons,zoT l (n+1) _ (by rw [Array.size_setIfInBounds];omega)]
  dsimp only
  rw [qav,Array.getElem?_setIfInBounds]
  by_cases h1:k=s+n
  ·subst h1
   rw [if_neg (by omega),if_pos rfl,if_pos (by omega),if_pos (by omega),Nat.sub_self]
   rfl
  ·by_cases h2:s+n<=k/\k<s+n+(l.length+1)
   ·rw [if_pos h2,if_pos (by omega)]
    obtain ⟨d,hd⟩: ∃ d,k - (s+n)=d+1:=⟨k - (s+n) - 1,by omega⟩
    rw [hd,List.getElem?_cons_succ]
    congr 1
    omega
   ·rw [if_neg h2,if_neg (by omega),if_neg (by omega)]
structure Loc (xs ys:Array Keyed) (lo hi:Nat):Prop where
 p:ys.toList.Perm xs.toList
 o: ∀ i,i<lo\/hi<=i->ys[i]? = xs[i]?
theorem Loc.refl (xs:Array Keyed) (lo hi:Nat):Loc xs xs lo hi:=⟨List.Perm.refl _,fun _ _=>rfl⟩
theorem Loc.trans {xs ys zs:Array Keyed} {lo hi:Nat} (h:Loc xs ys lo hi) (h2:Loc ys zs lo hi):Loc xs zs lo hi:=⟨h2.p.trans h.p,fun i hi=>(h2.o i hi).trans (h.o i hi)⟩
theorem Loc.size {xs ys:Array Keyed} {lo hi:Nat} (h:Loc xs ys lo hi):ys.size=xs.size:=by simpa using h.p.length_eq
theorem Loc.wide {xs ys:Array Keyed} {lo hi lo' hi':Nat} (h:Loc xs ys lo hi) (h1:lo'<=lo) (h2:hi<=hi'):Loc xs ys lo' hi':=⟨h.p,fun i hi=>h.o i (by omega)⟩
section
variable {c:Cx}
noncomputable def sg (c:Cx) (xs:Array Keyed) (lo hi:Nat):Prop:= ∀ i j x y,lo<=i->i<=j->j<hi->xs[i]? = some x->xs[j]? = some y->c.le x y
theorem zlq {xs:Array Keyed} {lo hi:Nat} (h:sg c xs lo hi) (hi2:hi<=xs.size):srt c (xs.extract lo hi):=by
 unfold srt
 rw [List.pairwise_iff_getElem]
 intro i j hi1 hj1 hij
 simp only [qam,Array.size_extract] at hi1 hj1
 have e: ∀ m (hm:m<(xs.extract lo hi).toList.length),xs[lo+m]? = some (xs.extract lo hi).toList[m]:=by
  intro m hm
  simp only [qam,Array.size_extract] at hm
  rw [Array.getElem_toList,Array.getElem_extract]
  exact getElem?_pos _ _ _
 exact h (lo+i) (lo+j) _ _ (by omega) (by omega) (by omega) (e i _) (e j _)
theorem zeZ {xs:Array Keyed} {lo hi:Nat} {x:Keyed} (h:x∈(xs.extract lo hi).toList): ∃ p,lo<=p/\p<hi/\xs[p]? = some x:=by
 obtain ⟨m,hm,e⟩:=List.getElem_of_mem h
 simp only [qam,Array.size_extract] at hm
 rw [Array.getElem_toList,Array.getElem_extract] at e
 exact ⟨lo+m,by omega,by omega,by rw [<- e];exact getElem?_pos _ _ _⟩
theorem zd0 {xs:Array Keyed} {lo hi i:Nat} {x:Keyed} (h:(xs.extract lo hi)[i]? = some x):lo+i<hi/\xs[lo+i]? = some x:=by
 obtain ⟨hm,e⟩:=Array.getElem?_eq_some_iff.mp h
 simp only [Array.size_extract] at hm
 rw [Array.getElem_extract] at e
 exact ⟨by omega,by rw [<- e];exact getElem?_pos _ _ _⟩
theorem ziK {xs:Array Keyed} {lo hi:Nat} (h:okA c xs):okA c (xs.extract lo hi):=by
 intro x hx
 obtain ⟨p,_,_,e⟩:=zeZ hx
 obtain ⟨hp,rfl⟩:=Array.getElem?_eq_some_iff.mp e
 exact h _ (by simp)
noncomputable def zmW (xs m:Array Keyed) (s:Nat):Array Keyed:=m.toList.zipIdx.foldl (fun a x=>a.setIfInBounds (s+x.2) x.1) xs
theorem zfX {xs m:Array Keyed} {s:Nat} (h:s+m.size<=xs.size) (k:Nat):(zmW xs m s)[k]? = if s<=k/\k<s+m.size then m[k - s]? else xs[k]? := by
 have:=zoT (s:=s) m.toList 0 xs (by simpa using h) k
 simpa [zmW] using this
theorem ziQ {xs m:Array Keyed} {s mid e:Nat} (h1:s<=mid) (h2:mid<=e) (he:e<=xs.size) (hm:m.toList.Perm ((xs.extract s mid).toList++(xs.extract mid e).toList)):Loc xs (zmW xs m s) s e/\m.size=e - s:=by
 have hs:m.size=e - s:=by
  have:=hm.length_eq
  simp only [qao,qam,Array.size_extract] at this
  omega
 refine ⟨⟨?_,?_⟩,hs⟩
 ·have e1:(zmW xs m s).toList=xs.toList.take s++(m.toList++xs.toList.drop e):=by
   apply List.ext_getElem?
   intro k
   rw [qag,zfX (by omega)]
   by_cases a1:k<s
   ·rw [if_neg (by omega),qac (by simp;omega),List.getElem?_take,if_pos a1,qag]
   ·rw [qaa (by simp;omega)]
    have e3:(xs.toList.take s).length=s:=by simp;omega
    rw [e3]
    by_cases a2:k<e
    ·rw [if_pos (by omega),qac (by simp;omega),qag]
    ·rw [if_neg (by omega),qaa (by simp;omega),List.getElem?_drop,qag]
     congr 1
     simp only [qam]
     omega
  have e2:xs.toList=xs.toList.take s++(((xs.extract s mid).toList++(xs.extract mid e).toList)++xs.toList.drop e):=by
   apply List.ext_getElem?
   intro k
   by_cases a1:k<s
   ·rw [qac (by simp;omega),List.getElem?_take,if_pos a1]
   ·rw [qaa (by simp;omega)]
    have e3:(xs.toList.take s).length=s:=by simp;omega
    rw [e3]
    by_cases a2:k<e
    ·rw [qac (by simp;omega)]
     by_cases a3:k<mid
     ·rw [qac (by simp;omega),qag,qag,Array.getElem?_extract,if_pos (by omega)]
      congr 1;omega
     ·rw [qaa (by simp;omega),qag,qag,Array.getElem?_extract,if_pos (by simp;omega)]
      congr 1;simp;omega
    ·rw [qaa (by simp;omega),List.getElem?_drop]
     congr 1
     simp
     omega
  rw [e1]
  conv=>rhs;rw [e2]
  exact List.Perm.append_left _ (List.Perm.append_right _ hm)
 ·intro i hi
  rw [zfX (by omega),if_neg (by omega)]
theorem zqq {xs m:Array Keyed} {sa s mid e hi:Nat} (h0:sa<=s) (h1:s<=mid) (h2:mid<=e) (h3:e<=hi) (he:hi<=xs.size) (hm:m.toList.Perm ((xs.extract s mid).toList++(xs.extract mid e).toList)) (hsr:srt c m)
  (ha:sg c xs sa mid) (hb:sg c xs mid hi)
  (g1: ∀ i j x y,sa<=i->i<s->mid<=j->j<hi->xs[i]? = some x->xs[j]? = some y->c.le x y)
  (g2: ∀ i j x y,sa<=i->i<mid->e<=j->j<hi->xs[i]? = some x->xs[j]? = some y->c.le x y):sg c (zmW xs m s) sa hi:=by
 obtain ⟨hl,hs⟩:=ziQ h1 h2 (by omega) hm
 have mem: ∀ i x,s<=i->i<e->(zmW xs m s)[i]? = some x-> ∃ p,s<=p/\p<e/\xs[p]? = some x:=by
  intro i x i1 i2 ex
  rw [zfX (by omega),if_pos (by omega)] at ex
  obtain ⟨hx,rfl⟩:=Array.getElem?_eq_some_iff.mp ex
  have:=hm.mem_iff.mp (show m[i - s]∈m.toList by simp)
  rcases List.mem_append.mp this with h | h
  ·obtain ⟨p,p1,p2,p3⟩:=zeZ h
   exact ⟨p,p1,by omega,p3⟩
  ·obtain ⟨p,p1,p2,p3⟩:=zeZ h
   exact ⟨p,by omega,p2,p3⟩
 have fir: ∀ i p x y,sa<=i->i<s->s<=p->p<hi->xs[i]? = some x->xs[p]? = some y->c.le x y:=by
  intro i p x y i1 i2 p1 p2 ex ey
  by_cases hp:p<mid
  ·exact ha i p x y i1 (by omega) hp ex ey
  ·exact g1 i p x y i1 i2 (by omega) p2 ex ey
 have las: ∀ p j x y,sa<=p->p<e->e<=j->j<hi->xs[p]? = some x->xs[j]? = some y->c.le x y:=by
  intro p j x y p1 p2 j1 j2 ex ey
  by_cases hp:p<mid
  ·exact g2 p j x y p1 hp j1 j2 ex ey
  ·exact hb p j x y (by omega) (by omega) j2 ex ey
 intro i j x y i1 i2 i3 ex ey
 by_cases a1:i<s
 ·rw [hl.o i (.inl a1)] at ex
  by_cases b1:j<s
  ·rw [hl.o j (.inl b1)] at ey
   exact ha i j x y i1 i2 (by omega) ex ey
  ·by_cases b2:j<e
   ·obtain ⟨p,p1,p2,p3⟩:=mem j y (by omega) b2 ey
    exact fir i p x y i1 a1 p1 (by omega) ex p3
   ·rw [hl.o j (.inr (by omega))] at ey
    exact fir i j x y i1 a1 (by omega) i3 ex ey
 ·by_cases a2:i<e
  ·by_cases b2:j<e
   ·rw [zfX (by omega),if_pos (by omega)] at ex ey
    exact zd7 hsr (by omega) ex ey
   ·obtain ⟨p,p1,p2,p3⟩:=mem i x (by omega) a2 ex
    rw [hl.o j (.inr (by omega))] at ey
    exact las p j x y (by omega) p2 (by omega) i3 p3 ey
  ·rw [hl.o i (.inr (by omega))] at ex
   rw [hl.o j (.inr (by omega))] at ey
   exact hb i j x y (by omega) i2 i3 ex ey
theorem zqh {Q:PUnit->SortSt->Prop} {st st1:SortSt} (h:Q ⟨⟩ st1):c.wp (set st1:StateT SortSt Sem PUnit) Q st:=by
 show wpS _ _ _ _ _ _ _
 unfold wpS;rw [StateT.run_set];exact qaI ⟨rfl,h⟩
theorem zu8 {st:SortSt} {i sa na nb pa pb:Nat} {Q:Bool->SortSt->Prop} (hk:kindOf st=c.kd) (hfl:failedOf st=none) (hok:okA c (arrOf st))
  (hi:(pendingOf st)[i]? = some (sa,na,pa)) (hj:(pendingOf st)[i+1]? = some (sa+na,nb,pb)) (n1:0<na) (n2:0<nb) (hsz:sa+na+nb<=(arrOf st).size)
  (ha:sg c (arrOf st) sa (sa+na)) (hb:sg c (arrOf st) (sa+na) (sa+na+nb))
  (h: ∀ st',kindOf st'=c.kd->failedOf st'=none->pendingOf st'=((pendingOf st).setIfInBounds i (sa,na+nb,pa)).eraseIdxIfInBounds (i+1)->Loc (arrOf st) (arrOf st') sa (sa+na+nb)->sg c (arrOf st') sa (sa+na+nb)->Q true st'):
  c.wp (MAt i) Q st:=by
 refine qaM (wpS_get ?_)
 dsimp only
 rw [hi,hj]
 dsimp only
 refine qaM (zqh ?_)
 refine (fun H: ∀ st1,kindOf st1=c.kd->failedOf st1=none->arrOf st1=arrOf st->pendingOf st1=((pendingOf st).setIfInBounds i (sa,na+nb,pa)).eraseIdxIfInBounds (i+1)->c.wp _ Q st1=>H (SortSt.mk' (kindOf st) (arrOf st) (((pendingOf st).setIfInBounds i (sa,na+nb,pa)).eraseIdxIfInBounds (i+1)) (gallopOf st) (failedOf st)) hk hfl rfl rfl) ?_
 intro st1 k1 f1 a1 p1
 clear hi hj
 obtain ⟨y,ey,oy⟩:=zbz hok (i:=sa+na) (by omega)
 refine qaM (zbY ey (qaM (zpn k1 oy n1 (fun i j x z hij hj hx hz=>ha _ _ x z (by omega) (by omega) (by omega) hx hz) (fun i hi=>zbz hok (by omega)) ?_)))
 intro k hk1 hk2 hk3
 have g1: ∀ p q x z,sa<=p->p<sa+k->sa+na<=q->q<sa+na+nb->(arrOf st)[p]? = some x->(arrOf st)[q]? = some z->c.le x z:=by
  intro p q x z h1 h2 h3 h4 ex ez
  exact Cx.le_trans (hk2 (p - sa) x (by omega) (by rw [show sa+(p - sa)=p by omega];exact ex)) (hb (sa+na) q y z (by omega) h3 h4 ey ez)
 refine za9 (fun q=> ?_) (fun q=> ?_)
 ·refine qaN (h st1 k1 f1 p1 (by rw [a1];exact Loc.refl _ _ _) ?_)
  rw [a1]
  intro p r x z h1 h2 h3 ex ez
  by_cases hr:r<sa+na
  ·exact ha p r x z h1 h2 hr ex ez
  ·by_cases hp:p<sa+na
   ·exact g1 p r x z h1 (by omega) (by omega) h3 ex ez
   ·exact hb p r x z (by omega) h2 h3 ex ez
 obtain ⟨z,ez,oz⟩:=zbz hok (i:=sa+na - 1) (by omega)
 have ez':(arrOf st)[sa+k+(na - k) - 1]? = some z:=by rw [<- ez];congr 1;omega
 refine qaM (zbY ez' (qaM (zsb k1 oz (by omega) (fun i j x z hij hj hx hz=>hb _ _ x z (by omega) (by omega) (by omega) hx hz) (fun i hi=>zbz hok (by omega)) ?_)))
 intro l hl1 hl2 hl3
 have g2: ∀ p q x w,sa<=p->p<sa+na->sa+na+l<=q->q<sa+na+nb->(arrOf st)[p]? = some x->(arrOf st)[q]? = some w->c.le x w:=by
  intro p q x w h1 h2 h3 h4 ex ew
  exact Cx.le_trans (ha p (sa+na - 1) x z h1 (by omega) (by omega) ex ez) (hl3 (q - (sa+na)) w (by omega) (by omega) (by rw [show sa+na+(q - (sa+na))=q by omega];exact ew))
 refine za9 (fun q2=> ?_) (fun q2=> ?_)
 ·refine qaN (h st1 k1 f1 p1 (by rw [a1];exact Loc.refl _ _ _) ?_)
  rw [a1]
  intro p r x w h1 h2 h3 ex ew
  by_cases hr:r<sa+na
  ·exact ha p r x w h1 h2 hr ex ew
  ·by_cases hp:p<sa+na
   ·exact g2 p r x w h1 hp (by omega) h3 ex ew
   ·exact hb p r x w (by omega) h2 h3 ex ew
 have sA:srt c ((arrOf st).extract (sa+k) (sa+na)):=zlq (fun i j x y h1 h2 h3=>ha i j x y (by omega) h2 h3) (by omega)
 have sB:srt c ((arrOf st).extract (sa+na) (sa+na+l)):=zlq (fun i j x y h1 h2 h3=>hb i j x y h1 h2 (by omega)) (by omega)
 have zA:((arrOf st).extract (sa+k) (sa+na)).size=na - k:=by rw [Array.size_extract];omega
 have zB:((arrOf st).extract (sa+na) (sa+na+l)).size=l:=by rw [Array.size_extract];omega
 have pA:0<((arrOf st).extract (sa+k) (sa+na)).size:=by omega
 have pB:0<((arrOf st).extract (sa+na) (sa+na+l)).size:=by omega
 have fstB: ∀ p x,sa+k<=p->p<sa+na->(arrOf st)[p]? = some x->c.le y x:=by
  intro p x h1 h2 ex
  exact Cx.le_of_lt (hk3 (p - sa) x (by omega) (by omega) (by rw [show sa+(p - sa)=p by omega];exact ex))
 have lstA: ∀ p x,sa+na<=p->p<sa+na+l->(arrOf st)[p]? = some x->c.le x z:=by
  intro p x h1 h2 ex
  exact Cx.le_of_lt (hl2 (p - (sa+na)) x (by omega) (by rw [show sa+na+(p - (sa+na))=p by omega];exact ex))
 have fin: ∀ (res:Array Keyed) (st':SortSt),Sm st1 st'->Fi c ((arrOf st).extract (sa+k) (sa+na)) ((arrOf st).extract (sa+na) (sa+na+l)) res->
   c.wp (modify (fun s=>SortSt.mk' (kindOf s) (zmW (arrOf s) res (sa+k)) (pendingOf s) (gallopOf s) (failedOf s))>>=fun _=>get>>=fun s=>pure (failedOf s).isNone) Q st':=by
  intro res st' hs hf
  refine qaM (wpS_modify (qaM (wpS_get (qaN ?_))))
  have e:(failedOf st').isNone=true:=by rw [hs.f,f1];rfl
  show Q (failedOf st').isNone _
  rw [e]
  refine h _ (hs.k.trans k1) (hs.f.trans f1) (hs.p.trans p1) ?_ ?_
  ·show Loc _ (zmW (arrOf st') res (sa+k)) _ _
   rw [hs.a,a1]
   exact (ziQ (by omega) (by omega) (by omega) hf.2).1.wide (by omega) (by omega)
  ·show sg c (zmW (arrOf st') res (sa+k)) _ _
   rw [hs.a,a1]
   exact zqq (by omega) (by omega) (by omega) (by omega) hsz hf.2 hf.1 ha hb g1 g2
 refine zaE (fun _=> ?_) (fun _=> ?_)
 ·refine qaM (zvh k1 sA sB (ziK hok) (ziK hok) pA pB ?_ ?_ fin)
  ·intro x w ex ew
   obtain ⟨_,ex⟩:=zd0 ex
   obtain ⟨_,ew⟩:=zd0 ew
   rw [Nat.add_zero,ey] at ew
   cases ew
   exact fstB _ x (by omega) (by omega) ex
  ·intro x ex w hw
   obtain ⟨_,ex⟩:=zd0 ex
   rw [show sa+k+(((arrOf st).extract (sa+k) (sa+na)).size - 1)=sa+na - 1 by omega,ez] at ex
   cases ex
   obtain ⟨p,p1,p2,p3⟩:=zeZ hw
   exact lstA p w p1 p2 p3
 ·refine qaM (zuO k1 sA sB (ziK hok) (ziK hok) pA pB ?_ ?_ fin)
  ·intro w ew x hx
   obtain ⟨_,ew⟩:=zd0 ew
   rw [Nat.add_zero,ey] at ew
   cases ew
   obtain ⟨p,p1,p2,p3⟩:=zeZ hx
   exact fstB p x p1 p2 p3
  ·intro x w ex ew
   obtain ⟨_,ex⟩:=zd0 ex
   obtain ⟨_,ew⟩:=zd0 ew
   rw [show sa+k+(((arrOf st).extract (sa+k) (sa+na)).size - 1)=sa+na - 1 by omega,ez] at ex
   cases ex
   exact lstA _ w (by omega) (by omega) ew
end
end TS
end
section
namespace TS
set_option autoImplicit false
open PySem PyProof PyProof.Rows
noncomputable abbrev CR:Nat->Nat->StateT SortSt Sem (Option Nat):=sortPriv% PySem.Builtin.countRun
noncomputable abbrev BS:Nat->Nat->Nat->StateT SortSt Sem Bool:=sortPriv% PySem.Builtin.binarySort
noncomputable abbrev LtA:Nat->Nat->StateT SortSt Sem (Option Bool):=sortPriv% PySem.Builtin.ltAt
noncomputable abbrev RS:Nat->Nat->StateT SortSt Sem Unit:=sortPriv% PySem.Builtin.reverseSlice
noncomputable abbrev MD:Nat->Nat->StateT SortSt Sem Unit:=sortPriv% PySem.Builtin.moveDown
structure St (c:Cx) (a0:Array Keyed) (p0:Array (Nat×Nat×Nat)) (lo hi:Nat) (st:SortSt):Prop where
 k:kindOf st=c.kd
 f:failedOf st=none
 p:pendingOf st=p0
 l:Loc a0 (arrOf st) lo hi
section
variable {c:Cx} {a0:Array Keyed} {p0:Array (Nat×Nat×Nat)} {lo hi:Nat}
noncomputable def KV (c:Cx) (xs:Array Keyed) (i:Nat):c.O.α:=c.ky (xs[i]?.getD (.none,.none)).1
noncomputable def up (c:Cx) (xs:Array Keyed) (lo hi:Nat):Prop:= ∀ i j,lo<=i->i<=j->j<hi->c.O.kle (KV c xs i) (KV c xs j)
noncomputable def dn (c:Cx) (xs:Array Keyed) (lo hi:Nat):Prop:= ∀ i j,lo<=i->i<=j->j<hi->c.O.kle (KV c xs j) (KV c xs i)
noncomputable def ek (c:Cx) (xs:Array Keyed) (lo hi:Nat):Prop:= ∀ i,lo<=i->i<hi->KV c xs i=KV c xs (hi - 1)
theorem zue {xs:Array Keyed} (h:up c xs lo hi):sg c xs lo hi:=by
 intro i j x y h1 h2 h3 ex ey
 have:=h i j h1 h2 h3
 unfold KV at this
 rw [ex,ey] at this
 exact this
theorem zdu {xs ys:Array Keyed} {i j:Nat} (h:xs[i]? = ys[j]?):KV c xs i=KV c ys j:=by unfold KV;rw [h]
theorem zrZ {xs:Array Keyed} {n:Nat} (n0:0<n) (h:up c xs lo (lo+n)) (hl:c.O.blt (KV c xs (lo+n)) (KV c xs (lo+n - 1))=false):up c xs lo (lo+(n+1)):=by
 intro i j h1 h2 h3
 by_cases hj:j<lo+n
 ·exact h i j h1 h2 hj
 ·have:j=lo+n:=by omega
  subst this
  by_cases hi:i=lo+n
  ·subst hi;exact KeyOrd.kle_refl _
  ·exact KeyOrd.kle_trans (h i (lo+n - 1) h1 (by omega) (by omega)) hl
theorem zjn {xs:Array Keyed} {n:Nat} (n0:0<n) (h:dn c xs lo (lo+n)) (hl:c.O.kle (KV c xs (lo+n)) (KV c xs (lo+n - 1))):dn c xs lo (lo+(n+1)):=by
 intro i j h1 h2 h3
 by_cases hj:j<lo+n
 ·exact h i j h1 h2 hj
 ·have:j=lo+n:=by omega
  subst this
  by_cases hi:i=lo+n
  ·subst hi;exact KeyOrd.kle_refl _
  ·exact KeyOrd.kle_trans hl (h i (lo+n - 1) h1 (by omega) (by omega))
theorem zmf {xs:Array Keyed} {i j:Nat} (hj:j<=xs.size) (k:Nat):KV c (mirror xs i j ((j - i) / 2)) k=if i<=k/\k<j then KV c xs (i+j - 1 - k) else KV c xs k:=by
 have e:=getElem?_mirror_all (i:=i) hj k
 by_cases h:i<=k/\k<j
 ·rw [if_pos h] at e ⊢; exact zdu e
 ·rw [if_neg h] at e ⊢; exact zdu e
theorem zeX {xs:Array Keyed} {i j:Nat} (hj:j<=xs.size) (h:ek c xs i j) (k:Nat):KV c (mirror xs i j ((j - i) / 2)) k=KV c xs k:=by
 rw [zmf hj]
 by_cases h1:i<=k/\k<j
 ·rw [if_pos h1,h (i+j - 1 - k) (by omega) (by omega),h k h1.1 h1.2]
 ·rw [if_neg h1]
theorem zgw {xs:Array Keyed} {i j:Nat} (hj:j<=xs.size) (h1:lo<=i) (h2:j<=hi):Loc xs (mirror xs i j ((j - i) / 2)) lo hi:=by
 refine ⟨Array.perm_iff_toList_perm.mp (mirror_perm _ _ _ _),fun k hk=> ?_⟩
 rw [getElem?_mirror_all hj,if_neg (by omega)]
theorem St.set {st:SortSt} {xs:Array Keyed} (h:St c a0 p0 lo hi st) (hl:Loc (arrOf st) xs lo hi):St c a0 p0 lo hi (setArr st xs):=⟨h.k,h.f,h.p,h.l.trans hl⟩
theorem St.ok {st:SortSt} (h:St c a0 p0 lo hi st) (ho:okA c a0):okA c (arrOf st):=fun x hx=>ho x (h.l.p.mem_iff.mp hx)
theorem zgH {st:SortSt} {i j:Nat} {Q:Option Bool->SortSt->Prop} (h:St c a0 p0 lo hi st) (ho:okA c a0) (hi:i<a0.size) (hj:j<a0.size)
  (hq:Q (some (c.O.blt (KV c (arrOf st) i) (KV c (arrOf st) j))) st):c.wp (LtA i j) Q st:=by
 have hz:=h.l.size
 obtain ⟨x,ex,ox⟩:=zbz (h.ok ho) (i:=i) (by omega)
 obtain ⟨y,ey,oy⟩:=zbz (h.ok ho) (i:=j) (by omega)
 refine qaM (wpS_get ?_)
 refine qaM (zbY ex (qaM (zbY ey (zkS h.k ox oy ?_))))
 unfold KV at hq
 rw [ex,ey] at hq
 exact hq
theorem znb {st:SortSt} {i j:Nat} {Q:Unit->SortSt->Prop} (h:Q () (setArr st (mirror (arrOf st) i j ((j - i) / 2)))):c.wp (RS i j) Q st:=wpS_modify h
theorem zvc {st:SortSt} {i j:Nat} {Q:Unit->SortSt->Prop} (h:Q () (setArr st (bubble (arrOf st) i (i - j)))):c.wp (MD i j) Q st:=wpS_modify h
theorem zlL {st:SortSt} {nrem n:Nat} (h:St c a0 p0 lo (lo+nrem) st) (ho:okA c a0) (hz:lo+nrem<=a0.size) (n0:0<n) (hn:n<=nrem) (hu:up c (arrOf st) lo (lo+n)):
  c.wp (forIn [n:nrem] ((none:Option (Option Nat)),n) fun _ r=>LtA (lo+r.2) (lo+r.2 - 1)>>=fun y=>match y with
    | some s=>if s=true then pure (ForInStep.done (none,r.2)) else pure (ForInStep.yield (none,r.2+1))
    | _=>pure (ForInStep.done (some none,r.2)))
   (fun r st'=>st'=st/\r.1=none/\n<=r.2/\r.2<=nrem/\up c (arrOf st) lo (lo+r.2)/\(r.2=nrem\/c.O.klt (KV c (arrOf st) (lo+r.2)) (KV c (arrOf st) (lo+r.2 - 1)))) st:=by
 refine wpS_forRange (I:=fun x r st'=>st'=st/\r.1=none/\r.2=x/\n<=r.2/\up c (arrOf st) lo (lo+r.2)) ?_ ?_ ⟨rfl,rfl,rfl,qaG _,hu⟩
 ·rintro x ⟨r,m⟩ st' h1 h2 ⟨e1,e2,e3,e4,e5⟩
  dsimp only at e1 e2 e3 e4 e5 ⊢
  subst e1 e2 e3
  refine qaM (zgH h ho (by omega) (by omega) ?_)
  refine zaE (fun q=> ?_) (fun q=> ?_)
  ·exact qaN ⟨rfl,rfl,e4,by dsimp only;omega,e5,.inr q⟩
  ·exact qaN ⟨rfl,rfl,rfl,by dsimp only;omega,zrZ (by omega) e5 (by simpa using q)⟩
 ·rintro ⟨r,m⟩ st' ⟨e1,e2,e3,e4,e5⟩
  dsimp only at e1 e2 e3 e4 e5 ⊢
  have:m=nrem:=by omega
  exact ⟨e1,e2,e4,by omega,e5,.inl this⟩
theorem zoa {st:SortSt} {nrem:Nat} {Q:Option Nat->SortSt->Prop} (h:St c a0 p0 lo (lo+nrem) st) (ho:okA c a0) (hz:lo+nrem<=a0.size) (hn:0<nrem)
  (hq: ∀ n st',0<n->n<=nrem->St c a0 p0 lo (lo+nrem) st'->up c (arrOf st') lo (lo+n)->Q (some n) st'):c.wp (CR lo nrem) Q st:=by
 refine qaM (wpS_mono (zlL h ho hz Nat.zero_lt_one hn ?_) ?_)
 ·intro i j h1 h2 h3
  have:i=j:=by omega
  subst this
  exact KeyOrd.kle_refl _
 rintro ⟨r,n⟩ st1 ⟨e1,e2,e3,e4,e5,e6⟩
 dsimp only at e1 e2 e3 e4 e5 e6 ⊢
 subst e1 e2
 refine za9 (fun q=> ?_) (fun q=> ?_)
 ·exact qaN (hq _ _ (by omega) e4 h e5)
 rcases e6 with e6 | e6
 ·exact absurd e6 q
 have d1: ∀ xs:Array Keyed,(∀ k,KV c xs k=KV c (arrOf st1) k)->(∀ i,lo<=i->i<lo+n->KV c (arrOf st1) i=KV c (arrOf st1) (lo+n - 1))->dn c xs lo (lo+(n+1)):=by
  intro xs h1 h2
  refine zjn (by omega) ?_ ?_
  ·intro i j i1 i2 i3
   rw [h1,h1,h2 i i1 (by omega),h2 j (by omega) i3]
   exact KeyOrd.kle_refl _
  ·rw [h1,h1]
   exact KeyOrd.kle_of_klt e6
 have hzz:=h.l.size
 refine zaE (fun q2=>qaM (zgH h ho (by omega) (by omega) (zaE (fun q3=> ?_) (fun q3=>qaM (znb ?_))))) (fun q2=> ?_)
 ·exact qaN (hq _ _ (by omega) e4 h e5)
 have hek:ek c (arrOf st1) lo (lo+n):=by
  intro i i1 i2
  refine KeyOrd.kle_antisymm (e5 i _ i1 (by omega) (by omega)) ?_
  exact KeyOrd.kle_trans (by simpa [KeyOrd.kle] using q3) (e5 lo i (qaG _) i1 i2)
 have b1:=h.set (zgw (xs:=arrOf st1) (i:=lo) (j:=lo+n) (by omega) (qaG _) (by omega))
 have b2:=d1 _ (zeX (by omega) hek) hek
 replace b2:dn c (arrOf (setArr st1 (mirror (arrOf st1) lo (lo+n) ((lo+n - lo) / 2)))) lo (lo+(n+1)):=b2
 generalize setArr st1 (mirror (arrOf st1) lo (lo+n) ((lo+n - lo) / 2))=st2 at b1 b2 ⊢
 rotate_left
 have b1:=h
 have b2:dn c (arrOf st1) lo (lo+(n+1)):=d1 _ (fun _=>rfl) (fun i i1 i2=>by
   have:i=lo+n - 1:=by omega
   rw [this])
 generalize st1=st2 at b1 b2 ⊢
 all_goals
  refine qaM (zdN ?_)
  refine qaM (wpS_mono (wpS_forRange
    (I:=fun x r st'=>r.1=none/\r.2.1=x/\St c a0 p0 lo (lo+nrem) st'/\0<r.2.1/\r.2.2<r.2.1/\dn c (arrOf st') lo (lo+r.2.1)/\ek c (arrOf st') (lo+r.2.1 - (r.2.2+1)) (lo+r.2.1))
    (Q:=fun r st'=>r.1=none/\r.2.1<=nrem/\St c a0 p0 lo (lo+nrem) st'/\0<r.2.1/\r.2.2<r.2.1/\dn c (arrOf st') lo (lo+r.2.1)/\ek c (arrOf st') (lo+r.2.1 - (r.2.2+1)) (lo+r.2.1)) ?_ ?_
    ⟨rfl,rfl,b1,Nat.succ_pos _,Nat.succ_pos _,b2,?_⟩) ?_)
  ·rintro x ⟨r,m,u⟩ st3 x1 x2 ⟨g1,g2,g3,g4,g5,g6,g7⟩
   dsimp only at g1 g2 g3 g4 g5 g6 g7 ⊢
   subst g1 g2
   have z3:=g3.l.size
   refine qaM (zgH g3 ho (by omega) (by omega) ?_)
   refine zaE (fun w=>zaE (fun w2=>qaM (znb (qaN ?_))) (fun w2=>qaN ?_)) (fun w=>qaM (zgH g3 ho (by omega) (by omega) (zaE (fun w2=>qaN ?_) (fun w2=>qaN ?_))))
   ·have kk:=zeX (c:=c) (xs:=arrOf st3) (by omega) g7
    refine ⟨rfl,rfl,g3.set (zgw (by omega) (by omega) (by omega)),Nat.succ_pos _,Nat.succ_pos _,zjn g4 ?_ ?_,?_⟩
    ·intro i j i1 i2 i3
     show c.O.kle (KV c (mirror _ _ _ _) j) (KV c (mirror _ _ _ _) i)
     rw [kk,kk]
     exact g6 i j i1 i2 i3
    ·show c.O.kle (KV c (mirror _ _ _ _) _) (KV c (mirror _ _ _ _) _)
     rw [kk,kk]
     exact KeyOrd.kle_of_klt w
    ·intro i i1 i2
     dsimp only at i1 i2 ⊢
     rw [show i=lo+(m+1) - 1 by omega]
   ·refine ⟨rfl,rfl,g3,Nat.succ_pos _,Nat.succ_pos _,zjn g4 g6 (KeyOrd.kle_of_klt w),?_⟩
    intro i i1 i2
    dsimp only at i1 i2 ⊢
    rw [show i=lo+(m+1) - 1 by omega]
   ·exact ⟨rfl,by dsimp only;omega,g3,g4,g5,g6,g7⟩
   ·have w1:c.O.blt (KV c (arrOf st3) (lo+m)) (KV c (arrOf st3) (lo+m - 1))=false:=by simpa using w
    have w3:c.O.blt (KV c (arrOf st3) (lo+m - 1)) (KV c (arrOf st3) (lo+m))=false:=by simpa using w2
    have ee:=c.O.total _ _ w1 w3
    refine ⟨rfl,rfl,g3,Nat.succ_pos _,by dsimp only;omega,zjn g4 g6 w3,?_⟩
    intro i i1 i2
    dsimp only at i1 i2 ⊢
    rw [show lo+(m+1) - 1=lo+m by omega]
    by_cases hi:i=lo+m
    ·rw [hi]
    ·rw [g7 i (by omega) (by omega),ee]
  ·rintro ⟨r,m,u⟩ st3 ⟨g1,g2,g3,g4,g5,g6,g7⟩
   exact ⟨g1,by dsimp only at g2 ⊢; omega,g3,g4,g5,g6,g7⟩
  ·intro i i1 i2
   dsimp only at i1 i2 ⊢
   rw [show i=lo+(n+1) - 1 by omega]
  ·rintro ⟨r,m,u⟩ st3 ⟨g1,g2,g3,g4,g5,g6,g7⟩
   dsimp only at g1 g2 g3 g4 g5 g6 g7 ⊢
   subst g1
   have z3:=g3.l.size
   refine zaE (fun w2=>qaM (znb ?_)) (fun w2=> ?_)
   have kk:=zeX (c:=c) (xs:=arrOf st3) (by omega) g7
   have c1:=g3.set (zgw (xs:=arrOf st3) (i:=lo+m - (u+1)) (j:=lo+m) (by omega) (by omega) (by omega))
   have c2:dn c (arrOf (setArr st3 (mirror (arrOf st3) (lo+m - (u+1)) (lo+m) ((lo+m - (lo+m - (u+1))) / 2)))) lo (lo+m):=by
    intro i j i1 i2 i3
    show c.O.kle (KV c (mirror _ _ _ _) j) (KV c (mirror _ _ _ _) i)
    rw [kk,kk]
    exact g6 i j i1 i2 i3
   generalize setArr st3 (mirror (arrOf st3) (lo+m - (u+1)) (lo+m) ((lo+m - (lo+m - (u+1))) / 2))=st4 at c1 c2 ⊢
   rotate_left
   have c1:=g3
   have c2:=g6
   generalize st3=st4 at c1 c2 ⊢
   all_goals
    have z4:=c1.l.size
    refine qaM (znb ?_)
    have c3:=c1.set (zgw (xs:=arrOf st4) (i:=lo) (j:=lo+m) (by omega) (qaG _) (by omega))
    refine qaM (wpS_mono (zlL c3 ho hz g4 g2 ?_) ?_)
    ·intro i j i1 i2 i3
     show c.O.kle (KV c (mirror _ _ _ _) i) (KV c (mirror _ _ _ _) j)
     rw [zmf (by omega),zmf (by omega),if_pos (by omega),if_pos (by omega)]
     exact c2 _ _ (by omega) (by omega) (by omega)
    ·rintro ⟨r,k⟩ st5 ⟨f1,f2,f3,f4,f5,f6⟩
     dsimp only at f1 f2 f3 f4 f5 ⊢
     subst f1 f2
     exact qaN (hq _ _ (by omega) f4 c3 f5)
theorem zoL {xs:Array Keyed} {src d:Nat} (hs:src<xs.size) (hd:d<=src) (k:Nat):
  KV c (bubble xs src d) k=if k=src - d then KV c xs src else if src - d<k/\k<=src then KV c xs (k - 1) else KV c xs k:=by
 have e:=getElem?_bubble hs d hd k
 by_cases h1:k=src - d
 ·rw [if_pos h1] at e ⊢; exact zdu e
 ·rw [if_neg h1] at e ⊢
  by_cases h2:src - d<k/\k<=src
  ·rw [if_pos h2] at e ⊢; exact zdu e
  ·rw [if_neg h2] at e ⊢; exact zdu e
theorem zsI {st:SortSt} {n ok:Nat} {Q:Bool->SortSt->Prop} (h:St c a0 p0 lo hi st) (ho:okA c a0) (hz:hi<=a0.size) (h0:0<ok) (hok:ok<=n) (hn:lo+n<=hi) (hu:up c (arrOf st) lo (lo+ok))
  (hq: ∀ st',St c a0 p0 lo hi st'->up c (arrOf st') lo (lo+n)->Q true st'):c.wp (BS lo n ok) Q st:=by
 refine qaM (wpS_mono (wpS_forRange (I:=fun k r st'=>r.1=none/\St c a0 p0 lo hi st'/\up c (arrOf st') lo (lo+k))
   (Q:=fun r st'=>r.1=none/\St c a0 p0 lo hi st'/\up c (arrOf st') lo (lo+n)) ?_ ?_ ⟨rfl,h,by rw [Nat.max_eq_left h0];exact hu⟩) ?_)
 ·rintro k ⟨r,u⟩ st1 k1 k2 ⟨e1,e2,e3⟩
  dsimp only at e1 e2 e3 ⊢
  subst e1
  have hzz:=e2.l.size
  refine qaM (wpS_mono (wpS_forRange (I:=fun x r st'=>r.1=(none:Option Bool)/\st'=st1/\r.2.1<=r.2.2/\r.2.2<=k/\r.2.2 - r.2.1<=k - x/\
      (∀ i,i<r.2.1->c.O.kle (KV c (arrOf st1) (lo+i)) (KV c (arrOf st1) (lo+k)))/\(∀ i,r.2.2<=i->i<k->c.O.kle (KV c (arrOf st1) (lo+k)) (KV c (arrOf st1) (lo+i))))
    (Q:=fun r st'=>r.1=none/\st'=st1/\r.2.1<=k/\
      (∀ i,i<r.2.1->c.O.kle (KV c (arrOf st1) (lo+i)) (KV c (arrOf st1) (lo+k)))/\(∀ i,r.2.1<=i->i<k->c.O.kle (KV c (arrOf st1) (lo+k)) (KV c (arrOf st1) (lo+i)))) ?_ ?_
    ⟨rfl,rfl,Nat.zero_le _,qaG _,qaG _,by intro i hi;dsimp only at hi;omega,by intro i hi;dsimp only at hi;omega⟩) ?_)
  ·rintro x ⟨r,a,b⟩ st2 x1 x2 ⟨g1,g2,g3,g4,g5,g6,g7⟩
   dsimp only at g1 g2 g3 g4 g5 g6 g7 ⊢
   subst g1 g2
   refine zaE (fun w=>qaN ?_) (fun w=>qaM (zgH e2 ho (by omega) (by omega) (zaE (fun v=>qaN ?_) (fun v=>qaN ?_))))
   ·have:a=b:=by omega
    subst this
    exact ⟨rfl,rfl,g4,g6,g7⟩
   ·refine ⟨rfl,rfl,by dsimp only;omega,by dsimp only;omega,by dsimp only;omega,g6,?_⟩
    intro i i1 i2
    dsimp only at i1
    exact KeyOrd.kle_trans (KeyOrd.kle_of_klt v) (e3 _ _ (by omega) (by omega) (by omega))
   ·refine ⟨rfl,rfl,by dsimp only;omega,g4,by dsimp only;omega,?_,g7⟩
    intro i i1
    dsimp only at i1
    exact KeyOrd.kle_trans (e3 _ _ (by omega) (by omega) (by omega)) (KeyOrd.kle_of_not_klt v)
  ·rintro ⟨r,a,b⟩ st2 ⟨g1,g2,g3,g4,g5,g6,g7⟩
   dsimp only at g1 g2 g3 g4 g5 g6 g7 ⊢
   have:a=b:=by omega
   subst this
   exact ⟨g1,g2,g4,g6,g7⟩
  ·rintro ⟨r,a,b⟩ st2 ⟨g1,g2,g3,g4,g5⟩
   dsimp only at g1 g2 g3 g4 g5 ⊢
   subst g1 g2
   refine qaM (zvc (qaN ⟨rfl,e2.set ⟨Array.perm_iff_toList_perm.mp (bubble_perm _ _ _),fun i hi=> ?_⟩,?_⟩))
   ·rw [getElem?_bubble (by omega) _ (by omega),if_neg (by omega),if_neg (by omega)]
   ·intro i j i1 i2 i3
    show c.O.kle (KV c (bubble _ _ _) i) (KV c (bubble _ _ _) j)
    have hl:lo+k - (lo+k - (lo+a))=lo+a:=by omega
    rw [zoL (by omega) (by omega),zoL (by omega) (by omega),hl]
    have o1: ∀ p,lo<=p->p<lo+a->c.O.kle (KV c (arrOf st2) p) (KV c (arrOf st2) (lo+k)):=by
     intro p p1 p2
     have:=g4 (p - lo) (by omega)
     rwa [show lo+(p - lo)=p by omega] at this
    have o2: ∀ p,lo+a<=p->p<lo+k->c.O.kle (KV c (arrOf st2) (lo+k)) (KV c (arrOf st2) p):=by
     intro p p1 p2
     have:=g5 (p - lo) (by omega) (by omega)
     rwa [show lo+(p - lo)=p by omega] at this
    by_cases q1:i=lo+a
    ·rw [if_pos q1]
     by_cases q2:j=lo+a
     ·rw [if_pos q2];exact KeyOrd.kle_refl _
     ·rw [if_neg q2,if_pos (by omega)]
      exact o2 _ (by omega) (by omega)
    ·rw [if_neg q1]
     by_cases q3:i<lo+a
     ·rw [if_neg (by omega)]
      by_cases q2:j=lo+a
      ·rw [if_pos q2];exact o1 _ i1 q3
      ·rw [if_neg q2]
       by_cases q4:j<lo+a
       ·rw [if_neg (by omega)]
        exact e3 _ _ i1 i2 (by omega)
       ·rw [if_pos (by omega)]
        exact e3 _ _ i1 (by omega) (by omega)
     ·rw [if_pos (by omega),if_neg (by omega),if_pos (by omega)]
      exact e3 _ _ (by omega) (by omega) (by omega)
 ·rintro ⟨r,u⟩ st1 ⟨e1,e2,e3⟩
  refine ⟨e1,e2,?_⟩
  rw [show max (max ok 1) n=n by omega] at e3
  exact e3
 ·rintro ⟨r,u⟩ st1 ⟨e1,e2,e3⟩
  dsimp only at e1 ⊢
  subst e1
  exact qaN (hq _ e2 e3)
end
end TS
end
section
namespace TS
set_option autoImplicit false
open PySem PyProof PyProof.Rows
noncomputable abbrev SR:StateT SortSt Sem Unit:=sortPriv% PySem.Builtin.sortRuns
section
variable {c:Cx}
noncomputable def chn (c:Cx) (xs:Array Keyed):List (Nat×Nat×Nat)->Nat->Nat->Prop
 | [],a,b=>a=b
 | t::r,a,b=>t.1=a/\0<t.2.1/\sg c xs a (a+t.2.1)/\chn c xs r (a+t.2.1) b
theorem zf5 {xs:Array Keyed}: ∀ {p q:List (Nat×Nat×Nat)} {a b:Nat},chn c xs (p++q) a b↔ ∃ m,chn c xs p a m/\chn c xs q m b
 | [],q,a,b=>⟨fun h=>⟨a,rfl,h⟩,fun ⟨m,e,h⟩=>by cases e;exact h⟩
 | t::r,q,a,b=>by
  show (_/\_/\_/\chn c xs (r++q) _ b)↔ ∃ m,(_/\_/\_/\chn c xs r _ m)/\_
  rw [zf5]
  constructor
  ·rintro ⟨h1,h2,h3,m,h4,h5⟩;exact ⟨m,⟨h1,h2,h3,h4⟩,h5⟩
  ·rintro ⟨m,⟨h1,h2,h3,h4⟩,h5⟩;exact ⟨h1,h2,h3,m,h4,h5⟩
theorem ze8 {xs:Array Keyed}: ∀ {p:List (Nat×Nat×Nat)} {a b:Nat},chn c xs p a b->a+p.length<=b
 | [],a,b,h=>by cases h;simp
 | t::r,a,b,h=>by
  have:=ze8 h.2.2.2
  have:=h.2.1
  rw [qav];omega
theorem zdt {xs ys:Array Keyed}: ∀ {p:List (Nat×Nat×Nat)} {a b:Nat},chn c xs p a b->(∀ i,a<=i->i<b->ys[i]? = xs[i]?)->chn c ys p a b
 | [],a,b,h,_=>h
 | t::r,a,b,h,he=>by
  have hl:=ze8 h.2.2.2
  refine ⟨h.1,h.2.1,?_,zdt h.2.2.2 (fun i i1 i2=>he i (by omega) i2)⟩
  intro i j x y i1 i2 i3 ex ey
  rw [he i i1 (by omega)] at ex
  rw [he j (by omega) (by omega)] at ey
  exact h.2.2.1 i j x y i1 i2 i3 ex ey
theorem zlw {xs:Array Keyed} {f:Nat×Nat×Nat->Nat×Nat×Nat} (hf: ∀ t,(f t).1=t.1/\(f t).2.1=t.2.1): ∀ {p:List (Nat×Nat×Nat)} {i a b:Nat},chn c xs p a b->chn c xs (p.modify i f) a b
 | [],i,a,b,h=>by cases i<;>exact h
 | t::r,0,a,b,h=>by
  show chn c xs (f t::r) a b
  refine ⟨(hf t).1.trans h.1,?_,?_,?_⟩
  ·rw [(hf t).2];exact h.2.1
  ·rw [(hf t).2];exact h.2.2.1
  ·rw [(hf t).2];exact h.2.2.2
 | t::r,i+1,a,b,h=>by
  show chn c xs (t::r.modify i f) a b
  exact ⟨h.1,h.2.1,h.2.2.1,zlw hf h.2.2.2⟩
structure Rn (c:Cx) (a0:Array Keyed) (lo:Nat) (st:SortSt):Prop where
 k:kindOf st=c.kd
 f:failedOf st=none
 p:(arrOf st).toList.Perm a0.toList
 h:chn c (arrOf st) (pendingOf st).toList 0 lo
theorem Rn.size {a0:Array Keyed} {lo:Nat} {st:SortSt} (h:Rn c a0 lo st):(arrOf st).size=a0.size:=by simpa using h.p.length_eq
theorem Rn.ok {a0:Array Keyed} {lo:Nat} {st:SortSt} (h:Rn c a0 lo st) (ho:okA c a0):okA c (arrOf st):=fun x hx=>ho x (h.p.mem_iff.mp hx)
theorem zr6 {α:Type} {l:List α} {i:Nat} (h:i+1<l.length): ∃ P x y S,l=P++x::y::S/\P.length=i:=by
 refine ⟨l.take i,l[i],l[i+1],l.drop (i+2),?_,by rw [List.length_take];omega⟩
 rw [<- List.drop_eq_getElem_cons, <-List.drop_eq_getElem_cons,List.take_append_drop]
theorem zoY {a0:Array Keyed} {st:SortSt} {lo i:Nat} {Q:Bool->SortSt->Prop} (h:Rn c a0 lo st) (ho:okA c a0) (hlo:lo<=a0.size) (hi:i+1<(pendingOf st).size)
  (hq: ∀ st',Rn c a0 lo st'->(pendingOf st').size+1=(pendingOf st).size->Loc (arrOf st) (arrOf st') 0 lo->Q true st'):c.wp (MAt i) Q st:=by
 obtain ⟨P,⟨sa,na,pa⟩,⟨sb,nb,pb⟩,S,eL,eP⟩:=zr6 (l:=(pendingOf st).toList) (i:=i) (by simpa using hi)
 have hh:=h.h
 rw [eL,zf5] at hh
 obtain ⟨m,h1,h2,h3,h4,h5,h6,h7,h8⟩:=hh
 dsimp only at h2 h3 h4 h5 h6 h7 h8
 subst h2 h5
 have hl1:=ze8 h1
 have hl2:=ze8 h8
 have hz:=h.size
 have g1:(pendingOf st)[i]? = some (sa,na,pa):=by
  rw [<- qag,eL,qaa (by omega),eP,Nat.sub_self];rfl
 have g2:(pendingOf st)[i+1]? = some (sa+na,nb,pb):=by
  rw [<- qag,eL,qaa (by omega),eP,show i+1 - i=1 by omega];rfl
 refine zu8 h.k h.f (h.ok ho) g1 g2 h3 h6 (by omega) h4 h7 ?_
 intro st' k1 k2 k3 k4 k5
 have e3:(pendingOf st').toList=P++(sa,na+nb,pa)::S:=by
  rw [k3]
  simp only [Array.toList_eraseIdxIfInBounds,Array.toList_setIfInBounds]
  rw [eL, <-eP]
  simp only [List.set_append_right _ _ (qaG _),Nat.sub_self,List.set_cons_zero]
  rw [List.eraseIdx_append_of_length_le (by omega),show P.length+1 - P.length=1 by omega]
  rfl
 refine hq st' ⟨k1,k2,k4.p.trans h.p,?_⟩ ?_ (k4.wide (Nat.zero_le _) (by omega))
 ·rw [e3,zf5]
  refine ⟨sa,zdt h1 (fun i _ i2=>k4.o i (.inl i2)),rfl,?_,?_,?_⟩
  ·dsimp only;omega
  ·show sg c (arrOf st') sa (sa+(na+nb))
   rw [<- Nat.add_assoc];exact k5
  ·show chn c (arrOf st') S (sa+(na+nb)) lo
   rw [<- Nat.add_assoc]
   exact zdt h8 (fun i i1 _=>k4.o i (.inr i1))
 ·have l1:(pendingOf st').size=(pendingOf st').toList.length:=by simp
  have l2:(pendingOf st).size=(pendingOf st).toList.length:=by simp
  rw [l1,l2,e3,eL]
  simp only [qao,qav]
  omega
theorem zt7 {a0:Array Keyed} {st:SortSt} {Q:Unit->SortSt->Prop} (hk:kindOf st=c.kd) (hf:failedOf st=none) (hp:pendingOf st= #[]) (ha:arrOf st=a0) (ho:okA c a0)
  (hq: ∀ st',failedOf st'=none->(arrOf st').toList.Perm a0.toList->sg c (arrOf st') 0 a0.size->Q () st'):c.wp SR Q st:=by
 refine qaM (wpS_get ?_)
 have ez:(arrOf st).size=a0.size:=by rw [ha]
 generalize hN:(arrOf st).size=N at ez
 dsimp only
 generalize (sortPriv% PySem.Builtin.minRun) N N 0=mr
 refine qaM (wpS_mono (wpS_forRange (I:=fun x r st'=>r.1=none/\Rn c a0 r.2 st'/\r.2<=N/\(x<=r.2\/r.2=N))
   (Q:=fun r st'=>r.1=none/\Rn c a0 N st') ?_ ?_ ⟨rfl,⟨hk,hf,by rw [ha],by rw [hp];rfl⟩,Nat.zero_le _,.inl (qaG _)⟩) ?_)
 ·rintro x ⟨r,lo⟩ st1 x1 x2 ⟨e1,e2,e3,e4⟩
  dsimp only at e1 e2 e3 e4 ⊢
  subst e1
  have z1:=e2.size
  refine zaE (fun w=>qaN ⟨rfl,?_⟩) (fun w=> ?_)
  ·have:lo=N:=by omega
   rw [<- this]
   exact e2
  refine qaM (zoa (a0:=arrOf st1) (p0:=pendingOf st1) ⟨e2.k,e2.f,rfl,Loc.refl _ _ _⟩ (e2.ok ho) (by omega) (by omega) ?_)
  intro n st2 n1 n2 s2 u2
  dsimp only
  have fin: ∀ (n:Nat) (st3:SortSt),0<n->n<=N - lo->St c (arrOf st1) (pendingOf st1) lo (lo+(N - lo)) st3->up c (arrOf st3) lo (lo+n)->Rn c a0 lo st3/\sg c (arrOf st3) lo (lo+n):=by
   intro n st3 m1 m2 m3 m4
   refine ⟨⟨m3.k,m3.f,m3.l.p.trans e2.p,?_⟩,zue m4⟩
   rw [m3.p]
   exact zdt e2.h (fun i _ i2=>m3.l.o i (.inl i2))
  refine zaE (fun w2=>qaM (zdN (qaM (zsI s2 (e2.ok ho) (by omega) n1 (n:=min (N - lo) mr) (by omega) (by omega) u2 ?_)))) (fun w2=> ?_)
  intro st3 s3 u3
  rw [if_neg (by simp)]
  have hm:0<min (N - lo) mr/\min (N - lo) mr<=N - lo:=by omega
  obtain ⟨r3,g3⟩:=fin _ st3 hm.1 hm.2 s3 u3
  generalize min (N - lo) mr=m at hm g3 ⊢
  rotate_left
  obtain ⟨r3,g3⟩:=fin _ st2 n1 n2 s2 u2
  have hm:0<n/\n<=N - lo:=⟨n1,n2⟩
  generalize n=m at hm g3 ⊢
  generalize st2=st3 at r3 g3 ⊢
  all_goals
   have push: ∀ st4:SortSt,Rn c a0 lo st4->sg c (arrOf st4) lo (lo+m)->Rn c a0 (lo+m) (SortSt.mk' (kindOf st4) (arrOf st4) ((pendingOf st4).push (lo,m,0)) (gallopOf st4) (failedOf st4)):=by
    intro st4 r4 g4
    refine ⟨r4.k,r4.f,r4.p,?_⟩
    show chn c (arrOf st4) ((pendingOf st4).push (lo,m,0)).toList 0 (lo+m)
    rw [Array.toList_push,zf5]
    exact ⟨lo,r4.h,rfl,hm.1,g4,rfl⟩
   refine qaM (wpS_get ?_)
   split
   ·refine qaM (wpS_mono (wpS_forRange (I:=fun _ r st'=>r.1=none/\Rn c a0 lo st'/\sg c (arrOf st') lo (lo+m))
      (Q:=fun r st'=>r.1=none/\Rn c a0 lo st'/\sg c (arrOf st') lo (lo+m)) ?_ ?_ ⟨rfl,r3,g3⟩) ?_)
    ·rintro y ⟨r,u⟩ st4 y1 y2 ⟨f1,f2,f3⟩
     dsimp only at f1 f2 f3 ⊢
     subst f1
     refine qaM (wpS_get ?_)
     split
     ·rename_i hs
      have hs2:(pendingOf st4).size>1:=by
       by_cases hc:(pendingOf st4).size>1
       ·exact hc
       ·rw [if_neg hc] at hs;cases hs
      refine zaE (fun _=>qaN ⟨rfl,f2,f3⟩) (fun _=>qaM (zoY f2 ho (by omega) (by show (pendingOf st4).size - 2+1<(pendingOf st4).size;omega) ?_))
      intro st5 r5 _ l5
      rw [if_neg (by simp)]
      refine qaN ⟨rfl,r5,?_⟩
      intro i j a b i1 i2 i3 ea eb
      rw [l5.o i (.inr i1)] at ea
      rw [l5.o j (.inr (by omega))] at eb
      exact f3 i j a b i1 i2 i3 ea eb
     ·exact qaN ⟨rfl,f2,f3⟩
    ·intro r st4 hh
     exact hh
    ·rintro ⟨r,u⟩ st4 ⟨f1,f2,f3⟩
     dsimp only at f1 f2 f3 ⊢
     subst f1
     refine qaM (wpS_modify (qaM (wpS_modify (qaN ⟨rfl,?_,by dsimp only;omega,by dsimp only;omega⟩))))
     refine push _ ⟨f2.k,f2.f,f2.p,?_⟩ f3
     show chn c (arrOf st4) ((pendingOf st4).modify _ _).toList 0 lo
     rw [Array.toList_modify]
     refine zlw ?_ f2.h
     exact fun _=>⟨rfl,rfl⟩
   ·exact qaM (wpS_modify (qaN ⟨rfl,push _ r3 g3,by dsimp only;omega,by dsimp only;omega⟩))
 ·rintro ⟨r,lo⟩ st1 ⟨e1,e2,e3,e4⟩
  dsimp only at e1 e2 e3 e4 ⊢
  have:lo=N:=by omega
  exact ⟨e1,this▸e2⟩
 ·rintro ⟨r,lo⟩ st1 ⟨e1,e2⟩
  dsimp only at e1 e2 ⊢
  subst e1
  refine qaM (wpS_mono (wpS_forRange (I:=fun x r st'=>r.1=none/\Rn c a0 N st'/\((pendingOf st').size<=1\/(pendingOf st').size+x<=N))
    (Q:=fun r st'=>r.1=none/\Rn c a0 N st'/\(pendingOf st').size<=1) ?_ ?_ ⟨rfl,e2,.inr ?_⟩) ?_)
  ·rintro x ⟨r,u⟩ st2 x1 x2 ⟨f1,f2,f3⟩
   dsimp only at f1 f2 f3 ⊢
   subst f1
   refine qaM (wpS_get ?_)
   refine zaE (fun w=>qaN ⟨rfl,f2,w⟩) (fun w=>qaM (zoY f2 ho (by omega) ?_ ?_))
   ·replace w: ¬(pendingOf st2).size<=1:=w
    have hx: ∀ (p:Prop) [Decidable p],(if p then (pendingOf st2).size - 2 - 1 else (pendingOf st2).size - 2)+1<(pendingOf st2).size:=by
     intro p _
     split<;>omega
    exact hx _
   ·intro st3 r3 p3 _
    rw [if_neg (by simp)]
    exact qaN ⟨rfl,r3,by omega⟩
  ·rintro ⟨r,u⟩ st2 ⟨f1,f2,f3⟩
   exact ⟨f1,f2,by omega⟩
  ·have:=ze8 e2.h
   simp only [qam] at this
   omega
  ·rintro ⟨r,u⟩ st2 ⟨f1,f2,f3⟩
   dsimp only at f1 f2 f3 ⊢
   subst f1
   refine qaN (hq _ f2.f f2.p ?_)
   have hh:=f2.h
   have hl:(pendingOf st2).toList.length<=1:=by simpa using f3
   rw [<- ez]
   match hL:(pendingOf st2).toList,hl with
   | [],_=>
    rw [hL] at hh
    have:0=N:=hh
    intro i j x y i1 i2 i3
    omega
   | [t],_=>
    rw [hL] at hh
    obtain ⟨t1,t2,t3,t4⟩:=hh
    have t5:0+t.2.1=N:=t4
    rw [t5] at t3
    exact t3
end
end TS
end
section
namespace TS
set_option autoImplicit false
open PySem PyProof PyProof.Rows
noncomputable def h6 (h:Heap) (a:Addr) (vs:List Value):Heap:=((h.update a (Obj.mapSeq fun _=> #[])).push (seqObj "tuple" vs.toArray 0)).push (seqObj "list" #[] 0)
theorem znJ (c:Cx) {s:Shared} {a:Addr} {vs:List Value} {n:Nat} {P:Fin->Shared->Prop} (ho:s.heap.get? a=some (seqObj "list" vs.toArray n)) (hs:c.s={s with heap:=h6 s.heap a vs})
  (hok: ∀ v,v∈vs->c.ok v) (hkk:2<=vs.length-> ∀ Q:SortKind->Shared->Prop,Q c.kd c.s->wpAny (model c.prog c.w) c.A (keyKind' vs.toArray) Q c.E c.s) (hz:vs.length<=sizeLine)
  (h: ∀ xs:Array Keyed,xs.toList.Perm (pairsOf vs).toList->sg c xs 0 vs.length->P (.done (.ret .none)) {s with heap:=sortedHeap s.heap a vs (xs.map (·.2))}):
  wpAny (model c.prog c.w) c.A (Builtin.«list.sort» ⟨[.ref a],[]⟩) P c.E s:=by
 rw [list_sort_plain]
 have ha:a<s.heap.objs.size:=qaC ho
 have zz:vs.toArray.size=vs.length:=by simp
 refine qaH (listItems_at ho rfl ?_)
 refine qaH (listUpdate_at ho rfl ?_ (by rw [zz];exact hz) (Nat.zero_le _))
 obtain ⟨e1,ho1⟩: ∃ e1,(s.heap.update a (Obj.mapSeq fun _=> #[])).get? a=some (seqObj "list" #[] e1):=⟨_,get?_update_seq ho (fun _=> #[])⟩
 refine qaH (seqEpoch_at ho1 rfl ?_)
 refine qaH (wpAny_newTuple ?_ (by simpa using hz))
 refine qaH (wpAny_newList ?_)
 refine qaB ?_
 have ho6:(h6 s.heap a vs).get? a=some (seqObj "list" #[] e1):=by
  unfold h6
  rw [Heap.get?_push_ne _ _ _ (by rw [size_push',Heap.size_update];exact qaD (Nat.lt_succ_of_lt ha)),Heap.get?_push_ne _ _ _ (by rw [Heap.size_update];exact qaD ha)]
  exact ho1
 show wpAny (model c.prog c.w) c.A _ P c.E {s with heap:=h6 s.heap a vs}
 rw [<- hs]
 have ho7:c.s.heap.get? a=some (seqObj "list" #[] e1):=by rw [hs];exact ho6
 dsimp only
 have zx: ∀ xs:Array Keyed,xs.toList.Perm (pairsOf vs).toList->(xs.map (·.2)).size<=sizeLine+1:=by
  intro xs hp
  have:=hp.length_eq
  simp only [qam,pairsOf_size] at this
  rw [Array.size_map];omega
 have e2: ∀ out:Array Value,({c.s with heap:=c.s.heap.update a (Obj.mapSeq fun _=>out)}:Shared)={s with heap:=sortedHeap s.heap a vs out}:=by
  intro out;rw [hs];rfl
 by_cases h2:vs.toArray.size<2
 ·rw [if_pos h2,if_pos h2]
  refine qaH (qaI ?_)
  rw [StateT.run_pure]
  refine qaH (qaI ?_)
  dsimp only
  refine qaH (seqEpoch_at ho7 rfl ?_)
  refine qaH (listUpdate_at ho7 rfl ?_ (hsz2:=zx _ (List.Perm.refl _)))
  simp only [bne_self_eq_false,qaq,if_false]
  refine qaI ?_
  rw [e2]
  refine h (vs.toArray.zip vs.toArray) (List.Perm.refl _) ?_
  intro i j x y i1 i2 i3 ex ey
  have:i=j:=by omega
  subst this
  rw [ex] at ey
  cases ey
  exact Cx.le_refl _
 ·rw [if_neg h2,if_neg h2]
  refine qaH (hkk (by omega) _ ?_)
  refine qaH (qaK (zt7 (c:=c) (a0:=pairsOf vs) (st:=SortSt.mk' c.kd (vs.toArray.zip vs.toArray) #[] 7 none) (Q:=fun _ st'=>failedOf st'=none/\(arrOf st').toList.Perm (pairsOf vs).toList/\sg c (arrOf st') 0 (pairsOf vs).size)
    rfl rfl rfl rfl ?_ fun st' b1 b2 b3=>⟨b1,b2,b3⟩) ?_ fun _ _ e=>e)
  ·intro x hx
   rw [pairsOf_toList] at hx
   exact hok _ (mem_zip_self hx).2
  rintro ⟨⟨⟩,st'⟩ s' ⟨rfl,hf,hp,hg⟩
  rw [pairsOf_size] at hg
  dsimp only
  refine qaH (seqEpoch_at ho7 rfl ?_)
  refine qaH (listUpdate_at ho7 rfl ?_ (hsz2:=zx _ hp))
  rw [hf]
  simp only [bne_self_eq_false,qaq,if_false]
  refine qaI ?_
  rw [e2]
  exact h _ hp hg
theorem zuu {c:Cx} {xs:Array Keyed} (h:sg c xs 0 xs.size):xs.toList.Pairwise c.le:=by
 have:=zlq h (qaG _)
 unfold srt at this
 rwa [Array.extract_size] at this
noncomputable def Srt (prog:Program) (w:World) (A:Around) (vs:List Value) (s1:Shared) (kd:SortKind) (O:KeyOrd) (ky:Value->O.α) (ok:Value->Prop):Prop:=
 (∀ v,v∈vs->ok v)/\ ∀ s2:Shared,(∀ b o,s1.heap.get? b=some o->s2.heap.get? b=some o)->
  (2<=vs.length-> ∀ (E:Value->Shared->Prop) (Q:SortKind->Shared->Prop),Q kd s2->wpAny (model prog w) A (keyKind' vs.toArray) Q E s2)/\
  ∀ (E:Value->Shared->Prop) (x y:Value) (Q:Bool->Shared->Prop),ok x->ok y->Q (O.blt (ky x) (ky y)) s2->wpAny (model prog w) A (keyLt' kd x y) Q E s2
theorem zj1 {prog:Program} {w:World} {A:Around} {E:Value->Shared->Prop} {s:Shared} {x:Value} {Q:Value->Shared->Prop} (hc: ∀ E':Value->Shared->Prop,wpAny (model prog w) A.in1 (collect x) (fun vs s1=>
      vs.length<=sizeLine/\ ∃ kd O ky ok,Srt prog w A.in1.in1 vs s1 kd O ky ok/\
      ∀ (out:List Value) e h',out.Perm vs->out.Pairwise (fun x y=>O.kle (ky x) (ky y))->(∀ b ob,s1.heap.get? b=some ob->h'.get? b=some ob)->h'.get? s1.heap.objs.size=some (seqObj "list" out.toArray e)->Q (.ref s1.heap.objs.size) {s1 with heap:=h'}) E' s):
  wpAny (model prog w) A (call (.builtin "sorted") [x]) Q E s:=by
 refine Calls.call_function_entry kind_sorted plain_sorted entry_sorted (args_sorted1 _) ?_
 unfold Builtin.«sorted»
 refine qaH (m:=checkCount "sorted" 1 1 _) (qaI ?_)
 refine qaH (m:=collect x) (qaK (hc _) (fun vs s1 ⟨hz,kd,O,ky,ok,⟨hS,hS2⟩,q⟩=> ?_) fun _ _ z=>z)
 refine qaH (wpAny_newList ?_ hz)
 have at0:(s1.heap.push {cls:= .type "list",data:= .seq vs.toArray}).get? s1.heap.objs.size=some (seqObj "list" vs.toArray 0):=qal _ rfl
 have keep: ∀ b ob,s1.heap.get? b=some ob->(h6 (s1.heap.push {cls:= .type "list",data:= .seq vs.toArray}) s1.heap.objs.size vs).get? b=some ob:=by
  intro b ob eb
  have lt:=qaC eb
  unfold h6
  refine qad _ (qad _ ?_)
  exact (qae _ _ (Ne.symm (qaD lt))).trans (qad _ eb)
 obtain ⟨g1,g2⟩:=hS2 {s1 with heap:=h6 (s1.heap.push {cls:= .type "list",data:= .seq vs.toArray}) s1.heap.objs.size vs} keep
 refine qaH (qaB (wpAny_call_entry slot_list_sort ⟨_,at0,rfl⟩ entry_list_sort (znJ (s:={s1 with heap:=s1.heap.push {cls:= .type "list",data:= .seq vs.toArray}})
   ⟨prog,w,A.in1.in1,_,_,kd,O,ky,ok,g2⟩ at0 rfl hS (fun h2 Q hQ=>g1 h2 _ Q hQ) hz fun xs hp hg=>⟨_,rfl,?_⟩) (args_list_sort _)))
 obtain ⟨e,he⟩:=sortedHeap_at (out:=xs.map (·.2)) at0
 have hl:xs.size=vs.length:=by
  have:=hp.length_eq
  simpa [pairsOf_size] using this
 rw [<- hl] at hg
 have hpw:=zuu hg
 have hmem: ∀ p,p∈xs.toList->p.1=p.2:=fun p hp'=>(mem_zip_self (by rw [<- pairsOf_toList];exact hp.mem_iff.mp hp')).1
 refine qaI ⟨_,rfl,q (xs.map (·.2)).toList e _ ?_ ?_ (fun b ob eb=> ?_) (by rw [Array.toArray_toList];exact he)⟩
 ·rw [Array.toList_map]
  have:=hp.map (·.2)
  rw [pairsOf_toList] at this
  refine this.trans (List.Perm.of_eq ?_)
  exact List.map_snd_zip (qaG _)
 ·rw [Array.toList_map,List.pairwise_map]
  refine List.Pairwise.imp_of_mem ?_ hpw
  intro u v hu hv huv
  rw [<- hmem u hu, <-hmem v hv]
  exact huv
 ·have lt:=qaC eb
  rw [sortedHeap_old (qaD lt) (by rw [Heap.size_push];exact Nat.lt_succ_of_lt lt)]
  exact qad _ eb
end TS
end
namespace TS
set_option autoImplicit false
open PySem PyProof PyProof.Rows PySem.SeqAt
open PySem.MeetsSeq PySem.MeetsSeq2 PySem.MeetsSeq3
inductive Rs (A:Around) (s:Shared) (b:Bool):List ((Value×Value)×Nat)->Bool->Bool->Prop
 | nil (d:Bool):Rs A s b [] d d
 | eq {p q:Value} {i:Nat} {rest:List ((Value×Value)×Nat)} {d r:Bool} (h:EqAt A s p q true) (t:Rs A s b rest d r):Rs A s b (((p,q),i)::rest) d r
 | ne {p q:Value} {i:Nat} {rest:List ((Value×Value)×Nat)} {d l:Bool} (h:EqAt A s p q false) (t: ∀ (prog:Program) (w:World) (E:Value->Shared->Prop) (Q:Bool->Shared->Prop),Q l s->wpAny (model prog w) A (oneLt' (b && i==0) p q) Q E s):Rs A s b (((p,q),i)::rest) d l
section
variable {prog:Program} {w:World} {A:Around} {s:Shared}
theorem zmk {b:Bool} {F:((Value×Value)×Nat)->(Option Bool×Unit)->Sem (ForInStep (Option Bool×Unit))}
  (hF: ∀ p q i c,F ((p,q),i) c=(eqBool p q>>=fun e=>if (!e)=true then oneLt' (b && i==0) p q>>=fun r=>pure (.done (some r,())) else pure (.yield (none,())))) {E:Value->Shared->Prop}:
  ∀ {L:List ((Value×Value)×Nat)} {d r:Bool},Rs A s b L d r->wpAny (model prog w) A (forIn L ((none:Option Bool),()) F) (fun c s'=>s'=s/\(c.1=some r\/(c.1=none/\d=r))) E s
 | _,_,_,.nil d=>by
  rw [List.forIn_nil]
  exact qaI ⟨rfl,.inr ⟨rfl,rfl⟩⟩
 | _,_,_,.eq h t=>by
  rw [List.forIn_cons,hF,bind_assoc]
  refine qaH (h prog w _ _ ?_)
  rw [if_neg (by simp),pure_bind]
  exact zmk hF t
 | _,_,_,.ne h t=>by
  rw [List.forIn_cons,hF,bind_assoc]
  refine qaH (h prog w _ _ ?_)
  rw [if_pos (by simp),bind_assoc]
  refine qaH (t prog w _ _ ?_)
  rw [pure_bind]
  exact qaI ⟨rfl,.inl rfl⟩
theorem zlW {b r:Bool} {E:Value->Shared->Prop} {Q:Bool->Shared->Prop} {a q:Addr} {xs ys:Array Value} (hx:IsTup s.heap a xs) (hy:IsTup s.heap q ys) (h:Rs A s b (xs.toList.zip ys.toList).zipIdx (decide (xs.size<ys.size)) r) (hq:Q r s):
  wpAny (model prog w) A (keyLt' (tuples' b) (.ref a) (.ref q)) Q E s:=by
 obtain ⟨o1,e1,_,n1,d1⟩:=hx
 obtain ⟨o2,e2,_,n2,d2⟩:=hy
 refine qaH (listItems_at e1 d1 (qaH (listItems_at e2 d2 ?_)))
 refine qaH (qaK (zmk (b:=b) ?_ h) ?_ fun _ _ e=>e)
 ·exact fun p q i c=>rfl
 ·rintro ⟨c,u⟩ s' ⟨rfl,e | ⟨e,e3⟩⟩
  ·cases e
   exact qaI hq
  ·cases e
   subst e3
   exact qaI hq
theorem znU {x y:Value} {l:Bool} (h: ∀ (prog:Program) (w:World) (E Q:Value->Shared->Prop),Q (.bool l) s->wpAny (model prog w) A (richCompare .Lt x y) Q E s) {E:Value->Shared->Prop} {Q:Bool->Shared->Prop} (hq:Q l s):
  wpAny (model prog w) A (oneLt' false x y) Q E s:=by
 rw [oneLt'_eq]
 simp only [qaq,if_false]
 exact qaH (h prog w _ _ (wpAny_truthy_bool hq))
theorem zjG {E:Value->Shared->Prop} {Q:Bool->Shared->Prop} {u v:Value} {p q:Int×List Int} (hv:L3.zb2 s.heap v p) (hu:L3.zb2 s.heap u q) (hr:A.units+2<cLine) (h:Q (L3.pLt p q) s):
  wpAny (model prog w) A (keyLt' (tuples' true) v u) Q E s:=by
 obtain ⟨a,x,t,its,rfl,ha,hx,hi⟩:=hv
 obtain ⟨b,y,t',its',rfl,hb,hy,hj⟩:=hu
 refine zlW ha hb (r:=L3.pLt p q) ?_ h
 show Rs A s true [((.int p.1 t,.int q.1 t'),0),((.ref x,.ref y),1)] (decide (2<2)) _
 unfold L3.pLt
 have c0:EqAt A s (.int p.1 t) (.int q.1 t') (p.1==q.1):=EqAt.int_int _ _ _ _
 have c1:EqAt A s (.ref x) (.ref y) (p.2==q.2):=L3.zg9 hx hy hi hj (by omega)
 by_cases h1:p.1=q.1
 ·rw [if_pos h1]
  rw [show (p.1==q.1)=true by simpa using h1] at c0
  refine .eq c0 ?_
  by_cases h2:p.2=q.2
  ·rw [show (p.2==q.2)=true by simpa using h2] at c1
   rw [h2,L3.zcW]
   exact .eq c1 (.nil _)
  ·rw [show (p.2==q.2)=false by simpa using h2] at c1
   exact .ne c1 (fun prog w E Q hq=>znU (fun prog w E Q hq=>HT.zfQ hx hy (by simpa using hi) (by simpa using hj) (by omega) hq) hq)
 ·rw [if_neg h1]
  rw [show (p.1==q.1)=false by simpa using h1] at c0
  exact .ne c0 (fun prog w E Q hq=>oneLt_int hq)
noncomputable def zpk (h:Heap) (v:Value) (ns:List Int):Prop:= ∃ (a:Addr) (its:List Value),v= .ref a/\IsTup h a its.toArray/\IntsAre its ns
end
end TS
namespace TS
set_option autoImplicit false
open PySem PyProof PyProof.Rows PySem.SeqAt
noncomputable def zhs (h:Heap) (v:Value):Prop:= ∃ (a:Addr) (xs:Array Value) (n:Int) (t:Tok),v= .ref a/\IsTup h a xs/\xs[0]? = some (.int n t)
section
variable {prog:Program} {w:World} {A:Around} {s:Shared}
theorem zng {v:Value} (h:zhs s.heap v) {E:Value->Shared->Prop}:wpAny (model prog w) A (firstOfTuple' v) (fun r s'=>s'=s/\ ∃ n t,r=some (.int n t)) E s:=by
 obtain ⟨a,xs,n,t,rfl,⟨o,e1,e2,m,d⟩,hx⟩:=h
 refine qaH (wpAny_typeOf (T:="tuple") ⟨o,e1,e2⟩ ?_)
 have:(Value.type "tuple" != Value.type "tuple")=false:=by rfl
 rw [this]
 refine qaH (listItems_at e1 d (qaI ⟨rfl,n,t,hx⟩))
theorem zhn {E:Value->Shared->Prop}: ∀ (vs:List Value),(∀ v,v∈vs->zhs s.heap v)->wpAny (model prog w) A (vs.mapM firstOfTuple') (fun r s'=>s'=s/\ ∃ us ns,IntsAre us ns/\r=us.map some/\us.length=vs.length) E s
 | [],_=>by rw [List.mapM_nil];exact qaI ⟨rfl,[],[],.nil,rfl,rfl⟩
 | v::vs,h=>by
  rw [List.mapM_cons]
  refine qaH (qaK (zng (h v (qan ..))) ?_ fun _ _ e=>e)
  rintro r s' ⟨es,n,t,rfl⟩
  rw [es]
  refine qaH (qaK (zhn vs fun u hu=>h u (qaj _ hu)) ?_ fun _ _ e=>e)
  rintro r s' ⟨es,us,ns,h1,rfl,h3⟩
  rw [es]
  exact qaI ⟨rfl,.int n t::us,n::ns,.cons n t h1,rfl,by simp [h3]⟩
theorem zpu {vs:List Value} (h: ∀ v,v∈vs->zhs s.heap v) (h0:2<=vs.length) {E:Value->Shared->Prop} {Q:SortKind->Shared->Prop} (hq:Q (tuples' true) s):wpAny (model prog w) A (keyKind' vs.toArray) Q E s:=by
 rw [keyKind'_eq,List.mapM_toArray,map_eq_pure_bind,bind_assoc]
 refine qaH (qaK (zhn vs h) ?_ fun _ _ e=>e)
 rintro r s' ⟨rfl,us,ns,h1,rfl,h3⟩
 rw [pure_bind]
 rw [if_pos (by simp)]
 refine qaH (wpAny_rule ?_)
 have e1:Array.filterMap id (us.map some).toArray=us.toArray:=by simp
 rw [e1,oneTypeOnly'_eq,List.mapM_toArray,mapM_typeOf_ints h1]
 simp only [map_pure,pure_bind]
 obtain ⟨u,us',rfl⟩: ∃ u us',us=u::us':=by
  cases us with
  | nil=>simp at h3;omega
  | cons u us'=>exact ⟨u,us',rfl⟩
 have hall:((List.map (fun _=>Value.type "int") (u::us')).toArray.all fun x=>x==Value.type "int")=true:=by
  simp only [List.all_toArray,List.all_map,List.all_eq_true]
  intro _ _
  rfl
 have h0':(List.map (fun _=>Value.type "int") (u::us')).toArray[0]? = some (Value.type "int"):=by simp
 rw [h0']
 simp only [hall,if_true,pure_bind]
 exact qaI hq
end
theorem zoQ: ∀ a b c:List Int,HT.zbp a b=true->HT.zbp b c=true->HT.zbp a c=true
 | [],[],_,h,_=>by cases h
 | [],_::_,[],_,h=>by cases h
 | [],_::_,_::_,_,_=>rfl
 | _::_,[],_,h,_=>by cases h
 | _::_,_::_,[],_,h=>by cases h
 | x::a,y::b,z::c,h1,h2=>by
  rw [HT.zbg] at h1 h2 ⊢
  have ih:=zoQ a b c
  split at h1<;>split at h2<;>split<;>simp_all<;>omega
theorem zoj: ∀ a b c:List Int,HT.zbp a c=true->HT.zbp a b=true\/HT.zbp b c=true
 | [],_,[],h=>by cases h
 | [],[],_::_,_=> .inr rfl
 | [],_::_,_::_,_=> .inl rfl
 | _::_,_,[],h=>by cases h
 | _::_,[],_::_,_=> .inr rfl
 | x::a,y::b,z::c,h=>by
  rw [HT.zbg] at h ⊢
  rw [HT.zbg]
  have ih:=zoj a b c
  split at h<;>split<;>split<;>simp_all<;>omega
theorem zoW: ∀ a b:List Int,HT.zbp a b=false->HT.zbp b a=false->a=b
 | [],[],_,_=>rfl
 | [],_::_,h,_=>by cases h
 | _::_,[],_,h=>by cases h
 | x::a,y::b,h1,h2=>by
  rw [HT.zbg] at h1 h2
  have ih:=zoW a b
  split at h1<;>split at h2<;>simp_all<;>omega
theorem zpM (a:Int×List Int):L3.pLt a a=false:=by unfold L3.pLt;rw [if_pos rfl,L3.zcW]
theorem zsR (a b c:Int×List Int) (h1:L3.pLt a b=true) (h2:L3.pLt b c=true):L3.pLt a c=true:=by
 unfold L3.pLt at*
 have:=zoQ a.2 b.2 c.2
 split at h1<;>split at h2<;>split<;>simp_all<;>omega
theorem zs4 (a b c:Int×List Int) (h:L3.pLt a c=true):L3.pLt a b=true\/L3.pLt b c=true:=by
 unfold L3.pLt at*
 have:=zoj a.2 b.2 c.2
 split at h<;>split<;>split<;>simp_all<;>omega
theorem zsj (a b:Int×List Int) (h1:L3.pLt a b=false) (h2:L3.pLt b a=false):a=b:=by
 unfold L3.pLt at*
 have:=zoW a.2 b.2
 split at h1<;>split at h2<;>simp_all<;>first | omega | exact Prod.ext (Eq.symm (by assumption)) (by assumption)
noncomputable def ztz:KeyOrd:=⟨Int×List Int,L3.pLt,zpM,zsR,zs4,zsj⟩
theorem zmQ {h:Heap} {v:Value} {p q:Int×List Int} (h1:L3.zb2 h v p) (h2:L3.zb2 h v q):p=q:=by
 obtain ⟨a,x,t,its,rfl,⟨o,e1,_,n1,d1⟩,⟨o2,e2,_,n2,d2⟩,hi⟩:=h1
 obtain ⟨b,y,t',its',eb,⟨o',e1',_,n1',d1'⟩,⟨o2',e2',_,n2',d2'⟩,hj⟩:=h2
 cases eb
 rw [e1] at e1'
 cases e1'
 rw [d1] at d1'
 injection d1' with z1 _
 have z2:[Value.int p.1 t,.ref x]=[.int q.1 t',.ref y]:=by simpa using congrArg Array.toList z1
 injection z2 with y1 z3
 injection z3 with y2 _
 injection y1 with y1 _
 injection y2 with y2
 subst y2
 rw [e2] at e2'
 cases e2'
 rw [d2] at d2'
 injection d2' with z4 _
 have z5:its=its':=by simpa using congrArg Array.toList z4
 subst z5
 exact Prod.ext y1 (L3.zfW hi hj)
theorem zpk.keep {h h':Heap} {v:Value} {p:List Int} (k: ∀ b o,h.get? b=some o->h'.get? b=some o):zpk h v p->zpk h' v p:=fun ⟨a,its,e,⟨o,x1,x2⟩,z⟩=>⟨a,its,e,⟨o,k _ _ x1,x2⟩,z⟩
theorem zj6 {h:Heap} {v:Value} {p:Int×List Int} (h1:L3.zb2 h v p):zhs h v:=by
 obtain ⟨a,x,t,its,rfl,ha,_,_⟩:=h1
 exact ⟨a,_,p.1,t,rfl,ha,rfl⟩
structure KR where
 O:KeyOrd
 dflt:O.α
 At:Heap->Value->O.α->Prop
 inj: ∀ {h v p q},At h v p->At h v q->p=q
 keep: ∀ {h h':Heap} {v p},(∀ b o,h.get? b=some o->h'.get? b=some o)->At h v p->At h' v p
 first: ∀ {h v p},At h v p->zhs h v
 lt: ∀ {prog:Program} {w:World} {A:Around} {s:Shared} {E:Value->Shared->Prop} {Q:Bool->Shared->Prop} {u v p q},At s.heap v p->At s.heap u q->A.units+2<cLine->Q (O.blt p q) s->wpAny (model prog w) A (keyLt' (tuples' true) v u) Q E s
noncomputable def krP:KR:=⟨ztz,(0,[]),L3.zb2,zmQ,L3.zb2.keep,zj6,zjG⟩
open Classical in
noncomputable def KR.ky (k:KR) (h:Heap) (v:Value):k.O.α:=if e: ∃ p,k.At h v p then e.choose else k.dflt
theorem KR.ky_eq {k:KR} {h:Heap} {v:Value} {p:k.O.α} (e:k.At h v p):k.ky h v=p:=by
 unfold KR.ky
 rw [dif_pos ⟨p,e⟩]
 exact k.inj (Exists.choose_spec ⟨p,e⟩) e
theorem KR.srt (k:KR) {prog:Program} {w:World} {A:Around} {vs:List Value} {s1:Shared} (hr:A.units+2<cLine) (h: ∀ v,v∈vs-> ∃ p,k.At s1.heap v p):Srt prog w A vs s1 (tuples' true) k.O (k.ky s1.heap) (fun v=> ∃ p,k.At s1.heap v p):=by
 refine ⟨h,fun s2 hk=>⟨fun h2 E Q hq=>zpu (fun v hv=> ?_) h2 hq,fun E x y Q hx hy hq=> ?_⟩⟩
 ·obtain ⟨p,hp⟩:=h v hv
  exact k.first (k.keep hk hp)
 ·obtain ⟨p,hp⟩:=hx
  obtain ⟨q,hq'⟩:=hy
  rw [KR.ky_eq hp,KR.ky_eq hq'] at hq
  exact k.lt (k.keep hk hp) (k.keep hk hq') hr hq
end TS
namespace TS
set_option autoImplicit false
open PySem PyProof.Rows
theorem zlK {α β:Type} {R:α->β->Prop} {l l':List β} (hp:l'.Perm l): ∀ {as:List α},PySem.Paired R as l-> ∃ as',as'.Perm as/\PySem.Paired R as' l':=by
 induction hp with
 | nil=>intro as h;exact ⟨as,.refl _,h⟩
 | cons x _ ih=>
  intro as h
  cases h with
  | cons r t=>
   obtain ⟨as',h1,h2⟩:=ih t
   exact ⟨_::as',h1.cons _,.cons r h2⟩
 | swap x y l=>
  intro as h
  cases h with
  | cons r t=>
   cases t with
   | cons r2 t2=>exact ⟨_,.swap _ _ _,.cons r2 (.cons r t2)⟩
 | trans _ _ ih1 ih2=>
  intro as h
  obtain ⟨a1,g1,g2⟩:=ih2 h
  obtain ⟨a2,g3,g4⟩:=ih1 g2
  exact ⟨a2,g3.trans g1,g4⟩
noncomputable def zqY {α:Type} (lt:α->α->Bool) (x:α):List α->List α
 | []=>[x]
 | y::r=>if lt x y then x::y::r else y::zqY lt x r
noncomputable def zeU {α:Type} (lt:α->α->Bool):List α->List α
 | []=>[]
 | x::r=>zqY lt x (zeU lt r)
theorem zfj {α:Type} (lt:α->α->Bool) (x:α): ∀ l:List α,(zqY lt x l).Perm (x::l)
 | []=> .refl _
 | y::r=>by
  unfold zqY
  split
  ·exact .refl _
  ·exact ((zfj lt x r).cons y).trans (.swap _ _ _)
theorem zcX {α:Type} (lt:α->α->Bool): ∀ l:List α,(zeU lt l).Perm l
 | []=> .refl _
 | x::r=>(zfj lt x _).trans ((zcX lt r).cons x)
theorem zk8 (O:KeyOrd) (x:O.α): ∀ l:List O.α,l.Pairwise O.kle->(zqY O.blt x l).Pairwise O.kle
 | [],_=>List.pairwise_singleton _ _
 | y::r,h=>by
  unfold zqY
  have h':=List.pairwise_cons.mp h
  split
  ·rename_i hl
   refine List.pairwise_cons.mpr ⟨fun z hz=> ?_,h⟩
   rcases List.mem_cons.mp hz with rfl | hz
   ·exact KeyOrd.kle_of_klt hl
   ·exact KeyOrd.kle_trans (KeyOrd.kle_of_klt hl) (h'.1 z hz)
  ·rename_i hl
   refine List.pairwise_cons.mpr ⟨fun z hz=> ?_,zk8 O x r h'.2⟩
   rcases List.mem_cons.mp ((zfj _ _ _).mem_iff.mp hz) with rfl | hz
   ·exact KeyOrd.kle_of_not_klt hl
   ·exact h'.1 z hz
theorem zet (O:KeyOrd): ∀ l:List O.α,(zeU O.blt l).Pairwise O.kle
 | []=> .nil
 | x::r=>zk8 O x _ (zet O r)
theorem zm1 (O:KeyOrd) {l l':List O.α} (hp:l'.Perm l) (hs:l'.Pairwise O.kle):l'=zeU O.blt l:=
 List.Perm.eq_of_pairwise (le:=O.kle) (fun a b _ _ h1 h2=>KeyOrd.kle_antisymm h1 h2) hs (zet O l) (hp.trans (zcX _ _).symm)
end TS
namespace L2
open PySem PySem.Spec PyProof.Rows TS
section
variable {X:L2.Cx}
theorem zhd (k:KR) {VA:W.Frag->Hp->V->k.O.α->Prop} (of: ∀ {pins:List (Addr×Obj)} {σ:L2.St} {H:Hp} {s:Shared} {v:V} {u:Value} {p:k.O.α},Inv X pins σ H s->VA X.K H v p->zbj v u->k.At s.heap u p) (hu:X.A.units+60<cLine):
  zay X (.builtin "sorted") (fun xs H Q=> ∃ (a:Addr) (zs:List (V×k.O.α)),xs=[.ref a]/\SqL X.K H a (zs.map (·.1))/\(∀ z,z∈zs->VA X.K H z.1 z.2)/\
    ∀ zs':List (V×k.O.α),zs'.Perm zs->zs'.Pairwise (fun x y=>k.O.kle x.2 y.2)-> ∀ l,H l=none->Q (.ref l) (upd H l (.lst (zs'.map (·.1))))):=by
 intro pins s σ H xs us Q I r h
 obtain ⟨a,zs,rfl,hq,hv,q⟩:=h
 obtain ⟨u,rfl,rx⟩:=zdp r
 cases rx
 obtain ⟨its,r',pl,hz⟩:=I.list hq
 have lz:its.length=zs.length:=by rw [<- r'.length,qax]
 have mk: ∀ {zs:List (V×k.O.α)} {its:List Value},zaV (zs.map (·.1)) its->(∀ z,z∈zs->VA X.K H z.1 z.2)->PySem.Paired (fun z u=>zbj z.1 u/\k.At s.heap u z.2) zs its:=by
  intro zs
  induction zs with
  | nil=>intro its h _;cases h;exact .nil
  | cons z zs ih=>
   intro its h hv
   cases h with
   | cons r t=>exact .cons ⟨r,of I (hv z (qan ..)) r⟩ (ih t fun y hy=>hv y (qaj _ hy))
 have hp:=mk r' hv
 have back: ∀ {zs:List (V×k.O.α)} {its:List Value},PySem.Paired (fun z u=>zbj z.1 u/\k.At s.heap u z.2) zs its->zaV (zs.map (·.1)) its/\(its.Pairwise (fun x y=>k.O.kle (k.ky s.heap x) (k.ky s.heap y))->zs.Pairwise (fun x y=>k.O.kle x.2 y.2))/\(∀ u,u∈its-> ∃ p,k.At s.heap u p)/\ ∀ y,y∈zs-> ∃ u,u∈its/\k.ky s.heap u=y.2:=by
  intro zs its h
  induction h with
  | nil=>exact ⟨.nil,fun _=> .nil,fun u hu=>(qaw hu).elim,fun u hu=>(qaw hu).elim⟩
  | cons r t ih=>
   obtain ⟨i1,i2,i3,i4⟩:=ih
   refine ⟨.cons r.1 i1,fun hh=> ?_,fun u hu=> ?_,fun y hy=> ?_⟩
   ·have hh':=List.pairwise_cons.mp hh
    refine List.pairwise_cons.mpr ⟨fun y hy=> ?_,i2 hh'.2⟩
    obtain ⟨u,u1,u2⟩:=i4 y hy
    have:=hh'.1 u u1
    rw [u2,KR.ky_eq r.2] at this
    exact this
   ·rcases List.mem_cons.mp hu with rfl | hu
    ·exact ⟨_,r.2⟩
    ·exact i3 u hu
   ·rcases List.mem_cons.mp hy with rfl | hy
    ·exact ⟨_,qan .., KR.ky_eq r.2⟩
    ·obtain ⟨u,u1,u2⟩:=i4 y hy
     exact ⟨u,qaj _ u1,u2⟩
 have zl:its.length<=sizeLine:=by rw [lz, <-qax (f:=(·.1))];exact hz
 refine zj1 fun E'=>collect_list pl.isList ?_ zl
 have kp: ∀ b ob,s.heap.get? b=some ob->((s.heap.push (seqObj "list" #[] 0)).update s.heap.objs.size (Obj.mapSeq fun x=>x++its.toArray)).get? b=some ob:=fun b ob eb=>
  (qae _ _ (fun z=>qaA _ (z▸qaC eb))).trans (qad _ eb)
 refine ⟨zl,_,_,_,_,k.srt (by rw [Around.in1_units,Around.in1_units];omega) (fun v hv=> ?_),fun out e h' ho hs k2 e2=> ?_⟩
 ·obtain ⟨p,hp'⟩:=(back hp).2.2.1 v hv
  exact ⟨p,k.keep kp hp'⟩
 ·obtain ⟨zs',g1,g2⟩:=zlK ho hp
  obtain ⟨b1,b2,b3,_⟩:=back g2
  have I1:=I.grown (s':={s with heap:=(s.heap.push (seqObj "list" #[] 0)).update s.heap.objs.size (Obj.mapSeq fun x=>x++its.toArray)}) rfl rfl kp
  refine ⟨.ref _,_,I1.laid (t':=s.toks) (o:= .lst (zs'.map (·.1))) k2 (qaG _) ⟨?_,out,e,b1,e2⟩,rfl,q zs' g1 (b2 ?_) _ (I1.hok.fresh (qaG _))⟩
  ·rw [qax,g1.length_eq, <-lz]
   exact zl
  ·refine List.Pairwise.imp_of_mem ?_ hs
   intro x y hx hy hxy
   obtain ⟨p,hp'⟩:=b3 x hx
   obtain ⟨q',hq'⟩:=b3 y hy
   rw [KR.ky_eq (k.keep kp hp'),KR.ky_eq (k.keep kp hq')] at hxy
   rw [KR.ky_eq hp',KR.ky_eq hq']
   exact hxy
end
end L2
namespace L3
open PySem PySem.Spec PyProof.Rows L2 TS
section
variable {X:L2.Cx} {E:XE}
noncomputable def mkP (p:Int×List Int):D:= .tup [.int p.1,.tup (p.2.map D.int)]
theorem zjc: ∀ {ds:List D} {ns:List Int},zc1 ds=some ns->ds=ns.map D.int
 | [],ns,e=>by cases e;rfl
 | d::r,ns,e=>by
  unfold zc1 at e
  cases d with
  | int i=>
   dsimp only at e
   cases z:zc1 r with
   | none=>rw [z] at e;cases e
   | some ms=>
    rw [z] at e
    cases e
    rw [qaz,zjc z]
  | _=>cases e
theorem zkM {d:D} {p:Int×List Int} (e:zc6 d=some p):d=mkP p:=by
 unfold zc6 at e
 split at e
 ·rename_i i ds
  cases z:zc1 ds with
  | none=>rw [z] at e;cases e
  | some ns=>
   rw [z] at e
   cases e
   rw [zjc z]
   rfl
 ·cases e
noncomputable def zgm {α:Type} (f:D->Option α):List D->Option (List α)
 | []=>some []
 | d::r=>(f d).bind fun p=>(zgm f r).map fun ps=>p::ps
theorem zeT: ∀ ds:List D,zgm zc6 ds=zcJ ds
 | []=>rfl
 | d::r=>by unfold zgm zcJ;rw [zeT r]
noncomputable def zmv {α:Type} (f:D->Option α) (mk:α->D) (lt:α->α->Bool):List D->M D:=zmc fun d=>do
 let ds<-zlO d
 let ps<-ofO (match d with | .tup _=>none | _=>zgm f ds)
 pure (.lst ((zeU lt ps).map mk))
noncomputable def ziz:List D->M D:=zmv zc6 mkP pLt
theorem zhm {α:Type} {f:D->Option α} {mk:α->D} {K:W.Frag} {ι:Io} {H:Hp} {VA:V->α->Prop} (hf: ∀ {d v p},Rel K ι H d v->f d=some p->d=mk p/\VA v p): ∀ {ds:List D} {vs:List V} {ps:List α},zal K ι H ds vs->zgm f ds=some ps->
  ∃ zs:List (V×α),zs.map (·.1)=vs/\zs.map (·.2)=ps/\ ∀ z,z∈zs->VA z.1 z.2/\Rel K ι H (mk z.2) z.1
 | [],vs,ps,h,e=>by
  simp only [zal] at h
  subst h
  cases e
  exact ⟨[],rfl,rfl,fun z hz=>(qaw hz).elim⟩
 | d::r,vs,ps,h,e=>by
  simp only [zal] at h
  obtain ⟨v,r',rfl,h1,h2⟩:=h
  unfold zgm at e
  cases z:f d with
  | none=>rw [z] at e;cases e
  | some p=>
   rw [z] at e
   cases z2:zgm f r with
   | none=>rw [z2] at e;cases e
   | some qs=>
    rw [z2] at e
    cases e
    obtain ⟨zs,g1,g2,g3⟩:=zhm hf h2 z2
    obtain ⟨k1,k2⟩:=hf h1 z
    refine ⟨(v,p)::zs,by rw [qaz,g1],by rw [qaz,g2],fun y hy=> ?_⟩
    rcases List.mem_cons.mp hy with rfl | hy
    ·exact ⟨k2,k1▸h1⟩
    ·exact g3 y hy
theorem ziD {α:Type} {mk:α->D} {K:W.Frag} {ι:Io} {H:Hp}: ∀ {zs:List (V×α)},(∀ z,z∈zs->Rel K ι H (mk z.2) z.1)->zal K ι H ((zs.map (·.2)).map mk) (zs.map (·.1))
 | [],_=>by simp [zal]
 | z::zs,h=>by
  simp only [qaz,zal]
  exact ⟨_,_,rfl,h z (qan ..),ziD fun y hy=>h y (qaj _ hy)⟩
theorem zic (k:KR) {f:D->Option k.O.α} {mk:k.O.α->D} {VA:W.Frag->Hp->V->k.O.α->Prop} (of: ∀ {pins:List (Addr×Obj)} {σ:L2.St} {H:Hp} {s:Shared} {v:V} {u:Value} {p:k.O.α},Inv X pins σ H s->VA X.K H v p->zbj v u->k.At s.heap u p)
  (hf: ∀ {ι:Io} {H:Hp} {d:D} {v:V} {p:k.O.α},Rel X.K ι H d v->f d=some p->d=mk p/\VA X.K H v p) (hu:X.A.units+60<cLine):zay X (.builtin "sorted") (zhD X.K E (zmv f mk k.O.blt)):=by
 refine zay.imp (zhd k of hu) fun xs H Q ⟨ι,h,ds,rl,hr,q⟩=> ?_
 obtain ⟨d,v,e,r,q⟩:=zb3 rl q
 obtain ⟨a,vs,ds',e',hs,rl',q⟩:=zcS hr r q
 obtain ⟨ps,ep,q⟩:=Fin.ofOb q
 rcases hs with ⟨hs,hd⟩ | ⟨hs,hd⟩
 ·have ep':zgm f ds'=some ps:=by
   cases d with
   | tup ts=>exact absurd rfl (hd ts)
   | _=>exact ep
  obtain ⟨zs,g1,g2,g3⟩:=zhm (VA:=VA X.K H) hf rl' ep'
  refine ⟨a,zs,by rw [e,e'],by rw [g1];exact hs,fun z hz=>(g3 z hz).1,fun zs' hp hw l hl=> ?_⟩
  have e3:zs'.map (·.2)=zeU k.O.blt ps:=by
   refine zm1 k.O ?_ ?_
   ·rw [<- g2];exact hp.map _
   ·rw [List.pairwise_map];exact hw
  refine zqI (E:=E) hr (ziD (mk:=mk) (zs:=zs') fun z hz=>(g3 z (hp.mem_iff.mp hz)).2) ?_ hl
  rw [e3]
  exact q
 ·subst hd
  cases ep
theorem zhO (hu:X.A.units+60<cLine):zay X (.builtin "sorted") (zhD X.K E ziz):=
 zic krP (VA:=zkC) (fun I h r=>zhx I h r) (fun r e=>⟨zkM e,zfH r e⟩) hu
end
end L3
namespace L3
open PySem PySem.Spec PyProof.Rows L2
section
variable {X:Cx} {E:XE}
noncomputable def zrU:D->Option Bool
 | .non=>some true
 | .int _=>some false
 | .tup _=>some false
 | .lst _=>some false
 | _=>none
noncomputable def zqW (x y:D):M D:=match y with
 | .non=>do let b<-ofO (zrU x);pure (.bl b)
 | _=>M.bad
noncomputable def zpZ (x y:D):M D:=match y with
 | .non=>do let b<-ofO (zrU x);pure (.bl (!b))
 | _=>M.bad
theorem zjr {K:W.Frag} {ι:Io} {H:Hp} {x:D} {v:V} {u:Value} {b:Bool} (r:Rel K ι H x v) (rv:zbj v u) (e:zrU x=some b):(u=Value.none/\b=true)\/(u≠Value.none/\b=false):=by
 cases x with
 | non=>
  simp only [Rel] at r
  subst r
  cases rv
  cases e
  exact .inl ⟨rfl,rfl⟩
 | int i=>
  simp only [Rel] at r
  subst r
  obtain ⟨t,rfl⟩:=rv
  cases e
  exact .inr ⟨(fun z=>by cases z),rfl⟩
 | tup ds=>
  obtain ⟨a,vs,rfl,_,_⟩:=zcm r
  cases rv
  cases e
  exact .inr ⟨(fun z=>by cases z),rfl⟩
 | lst ds=>
  obtain ⟨a,vs,rfl,_,_⟩:=zc4 r
  cases rv
  cases e
  exact .inr ⟨(fun z=>by cases z),rfl⟩
 | _=>cases e
theorem zkG:OpR X (compareOp .Is) (zcT X.K E zqW):=by
 intro pins s σ H x y v u Q I rx ry ⟨ι,h,d1,d2,r1,r2,hr,q⟩
 cases d2 with
 | non=>
  obtain ⟨b,eb,q⟩:=Fin.ofOb (show Fin X.K E ι H ((do let b<-ofO (zrU d1);pure (.bl b):M D) h) _ from q)
  simp only [Rel] at r2
  subst r2
  cases ry
  rcases zjr r1 rx eb with ⟨rfl,rfl⟩ | ⟨hv,rfl⟩
  ·exact is_none_none (zhp I (Fin.out hr q _ (by simp [Rel])) rfl)
  ·exact is_none_ne hv (zhp I (Fin.out hr q _ (by simp [Rel])) rfl)
 | _=>exact False.elim q
theorem zqK:OpR X (compareOp .IsNot) (zcT X.K E zpZ):=by
 intro pins s σ H x y v u Q I rx ry ⟨ι,h,d1,d2,r1,r2,hr,q⟩
 cases d2 with
 | non=>
  obtain ⟨b,eb,q⟩:=Fin.ofOb (show Fin X.K E ι H ((do let b<-ofO (zrU d1);pure (.bl (!b)):M D) h) _ from q)
  simp only [Rel] at r2
  subst r2
  cases ry
  rcases zjr r1 rx eb with ⟨rfl,rfl⟩ | ⟨hv,rfl⟩
  ·exact isnot_none_none (zhp I (Fin.out hr q _ (by simp [Rel])) rfl)
  ·exact isnot_none_ne hv (zhp I (Fin.out hr q _ (by simp [Rel])) rfl)
 | _=>exact False.elim q
end
section
variable {X:Cx} {E:XE} {scope:Scope} {N:List Str} {src:List (Option Nat)} {tg iter elt:Expr} {ifs:List Expr} {pos:Pos}
theorem zv0 {K:W.Frag} {g:D->Sd->M Sd} {tc:Sd->M Bool} {te:Sd->M D} {J:It} {ds:List D} {ι:Io} {H:Hp} {h:Hh} {sd:Sd} {σ:L2.St} {Q:VK} {p:Addr} (hk:zax g src) (L:zbZ K ι H sd σ) (hr:za1 K ι H h) (ok:zql K ι H J ds) (hz:ds.length<=sizeLine)
  (q:Fin K E ι H ((do let ys<-zbt (zaT g tc te (zah src sd)) ds;za2 ys) h) fun d ι' H'=> ∀ v,Rel K ι' H' d v->Q v H') (hp:H p=none):
  ztC J (ztt K E g) (zia K E tc) (zhU K E te) (bStart src σ) H p fun H'=>Q (.ref p) H':=by
 generalize hP:(fun (d:D) (ι':Io) (H':Hp)=> ∀ v,Rel K ι' H' d v->Q v H')=P at q
 generalize hf:zaT g tc te (zah src sd)=f at q
 have hpx:p∉ι.x:=fun z=>hr.nin hp (.inr z)
 have h0len:(zah src sd).length=src.length:=by unfold zah;rw [qax]
 have h0non: ∀ (i:Nat),src[i]? = some none->(zah src sd)[i]? = some none:=fun i e=>by unfold zah;rw [List.getElem?_map,e];rfl
 refine ⟨fun i m σ' H'=>m=ds.length - i/\i<=ds.length/\ ∃ ι' h' done vs,ι'.x=p::ι.x/\zbu ι H ι'.show H'/\zbZ K ι' H' (zah src sd) σ'/\za1 K ι' H' h'/\H' p=some (.lst vs)/\zal K ι' H' done vs/\done.length<=i/\
     Fin K E ι H ((do let ys<-zbt f (ds.drop i);za2 (done++ys)) h') P,
   ⟨_,rfl,Nat.zero_le _,ι.hide p,h,[],[],rfl,?_,L.bStart.pass (zeI hp),hr.hide hp,zaL,zal.nil,qaG _,?_⟩,?_⟩
 ·have:=hr.laidS (o:= .lst []) hp
  exact ⟨this.old,this.new,this.hid,this.hidk,this.keep⟩
 ·simpa using q
 rintro i m σ2 H2 ⟨rfl,hi2,ι2,h2,done,vs,hx2,s2,L2,hr2,e2,rl2,dl2,q2⟩
 have ps2:Pass ι H ι2 H2:=⟨s2.old,fun b o hb n=>⟨s2.keep b o hb n,fun z=>by
   rcases z with z | z
   · exact s2.nin hb n (.inl z)
   · rw [hx2] at z
     rcases List.mem_cons.mp z with z | z
     · rw [z,hp] at hb;cases hb
     · exact n (.inr z)⟩⟩
 have hp2:p∈ι2.x:=by rw [hx2];exact qan
 have base: ∀ {ι':Io} {H':Hp},zbu ι2 H2 ι' H'->zbu ι H ι'.show H':=fun t=>s2.trans (t.shown hx2)
 by_cases hlt:i<ds.length
 ·right
  refine ⟨ok.go ι2 H2 i ps2 hlt,fun σ' H'=>i+1<=ds.length/\ ∃ ι' h' done vs,ι'.x=p::ι.x/\zbu ι H ι'.show H'/\zbZ K ι' H' (zah src sd) σ'/\za1 K ι' H' h'/\H' p=some (.lst vs)/\zal K ι' H' done vs/\done.length<=i+1/\
    Fin K E ι H ((do let ys<-zbt f (ds.drop (i+1));za2 (done++ys)) h') P,fun σ' H' z=>⟨ds.length - (i+1),by omega,rfl,z.1,z.2⟩,fun x H3 y=> ?_⟩
  obtain ⟨gr,d,ed,rd⟩:=ok.yld ι2 H2 h2 i x H3 ps2 hr2 hlt y
  obtain ⟨s3,hr3⟩:=gr.step hr2
  have edr:ds.drop i=d::ds.drop (i+1):=by
   rw [List.drop_eq_getElem_cons hlt]
   rw [List.getElem?_eq_getElem hlt] at ed
   rw [Option.some.inj ed]
  rw [edr] at q2
  have q3:=q2
  have st3:zbu ι2 H2 ι2 H3:=s3
  have e3:H3 p=some (.lst vs):=by rw [s3.hidk p hp2];exact e2
  have eq1:(do let ys<-zbt f (d::ds.drop (i+1));za2 (done++ys):M D)=(g d (zah src sd)>>=fun sd1=>tc sd1>>=fun c=>if c=true then (te sd1>>=fun y=>zbt f (ds.drop (i+1))>>=fun ys=>za2 (done++[y]++ys)) else (zbt f (ds.drop (i+1))>>=fun ys=>za2 (done++ys))):=by
   rw [zbt]
   rw [<- hf]
   simp only [zaT,bind_assoc]
   refine congrArg _ (funext fun sd1=> ?_)
   refine congrArg _ (funext fun c=> ?_)
   cases c with
   | true=>simp only [if_true,bind_assoc,pure_bind,List.append_assoc,List.cons_append,List.nil_append]
   | false=>simp only [qaq,if_false,pure_bind]
  rw [eq1] at q3
  refine ⟨ι2,h2,zah src sd,d,L2.step s3,hr3,rd,?_⟩
  refine Fin.bindB q3 (fun ι' H' h' s hr'=>⟨ι'.show,base (s3.trans s),hr'.show⟩) fun sd4 h4 ι4 H4 e4 s4 hr4 q4 σ4 L4=> ?_
  have hx4:ι4.x=p::ι.x:=by rw [s4.hid];exact hx2
  obtain ⟨k1,k2⟩:=hk d _ h2 sd4 h4 h0len h0non e4
  refine ⟨ι4,h4,sd4,L4,hr4,Fin.bindB q4 (fun ι' H' h' s hr'=>⟨ι'.show,base ((s3.trans s4).trans s),hr'.show⟩) fun c h5 ι5 H5 e5 s5 hr5 q5=> ?_⟩
  have hx5:ι5.x=p::ι.x:=by rw [s5.hid];exact hx4
  have sub: ∀ {ι':Io} {H':Hp},zbZ K ι' H' sd4 σ4->zbZ K ι' H' (zah src sd) σ4:=fun {ι' H'} z=>⟨by rw [<- k1];exact z.1,fun j d' e=>z.2 j d' (k2 j d' (fun w=>by rw [h0non j w] at e;cases e) e)⟩
  have st5:zbu ι2 H2 ι5 H5:=(s3.trans s4).trans s5
  cases c with
  | false=>
   exact zq3 ⟨hlt,ι5,h5,done,vs,hx5,base st5,sub (L4.step s5),hr5,by rw [st5.hidk p hp2];exact e2,rl2.step st5,Nat.le_succ_of_le dl2,q5⟩
  | true=>
   refine zq1 ⟨ι5,h5,sd4,L4.step s5,hr5,Fin.bindB q5 (fun ι' H' h' s hr'=>⟨ι'.show,base (st5.trans s),hr'.show⟩) fun yd h6 ι6 H6 e6 s6 hr6 q6 y ry=> ?_⟩
   have st6:zbu ι2 H2 ι6 H6:=st5.trans s6
   have hx6:ι6.x=p::ι.x:=by rw [s6.hid];exact hx5
   have hp6:p∈ι6.x:=by rw [hx6];exact qan
   have e6':H6 p=some (.lst vs):=by rw [st6.hidk p hp2];exact e2
   refine ⟨vs,e6',by rw [<- rl2.length];omega,hlt,ι6,h6,done++[yd],vs++[y],hx6,zhq hp hpx hx2 s2 st6,?_,hr6.hid hp6,zaL,?_,?_,?_⟩
   ·exact ((sub (L4.step s5)).step s6).pass (zdA hp6)
   ·exact ((rl2.step st6).append (zal.cons ry zal.nil)).pass (zdA hp6)
   ·rw [qao,List.length_singleton];omega
   ·exact q6
 ·left
  have e:i=ds.length:=by omega
  subst e
  refine ⟨ok.stop ι2 H2 ps2,?_⟩
  rw [List.drop_length] at q2
  have hin:p∈ι2.x:=hp2
  have hpc:some p∉ι2.c:=(hr2.hidt p hin).2
  have htl:ι2.x.tail=ι.x:=by rw [hx2];rfl
  have q3:Fin K E ι H (za2 done h2) P:=by
   have:Fin K E ι H ((za2 (done++[]):M D) h2) P:=q2
   rw [List.append_nil] at this
   exact this
  have hmem: ∀ a,some a∈ι2.c++[some p]↔some a∈ι2.c\/a=p:=fun a=>by simp
  have ps:Pass ι2 H2 ⟨ι2.c++[some p],ι.x⟩ H2:=by
   refine ⟨fun n o h=> .inl ?_,fun b o hb n=>⟨hb,fun z=> ?_⟩⟩
   ·show (ι2.c++[some p])[n]? = _
    rw [qac (qab.mp h).1]
    exact h
   ·rcases z with z | z
    ·rcases (hmem b).mp z with z | z
     ·exact n (.inl z)
     ·exact n (.inr (z▸hin))
    ·exact n (.inr (by rw [hx2];exact qaj _ z))
  have st:zbu ι H ⟨ι2.c++[some p],ι.x⟩ H2:=by
   refine ⟨fun n o h=> ?_,fun a h=> ?_,rfl,s2.hidk,s2.keep⟩
   ·rcases s2.old n o h with z | z
    ·left
     have z:ι2.c[n]? = some o:=z
     show (ι2.c++[some p])[n]? = _
     rw [qac (qab.mp z).1]
     exact z
    ·right
     have z:ι2.c[n]? = some none:=z
     show (ι2.c++[some p])[n]? = _
     rw [qac (qab.mp z).1]
     exact z
   ·rcases (hmem a).mp h with z | z
    ·exact s2.new a z
    ·exact .inr (z▸hp)
  have hr3:za1 K ⟨ι2.c++[some p],ι.x⟩ H2 (h2++[.lst done]):=by
   have hl:=hr2.len
   refine ⟨by simp [hl],fun a b c ha hb=> ?_,fun n a c ha hc=> ?_,fun n hn=> ?_,fun a ha=> ?_⟩
   ·have ha:(ι2.c++[some p])[a]? = some (some c):=ha
    have hb:(ι2.c++[some p])[b]? = some (some c):=hb
    have key: ∀ n,(ι2.c++[some p])[n]? = some (some c)->(n<ι2.c.length/\ι2.c[n]? = some (some c))\/(n=ι2.c.length/\c=p):=fun n hn=>by
     by_cases hlt':n<ι2.c.length
     ·rw [qac hlt'] at hn
      exact .inl ⟨hlt',hn⟩
     ·have:=(qab.mp hn).1
      rw [qao,List.length_singleton] at this
      have e:n=ι2.c.length:=by omega
      subst e
      rw [qaa (qaG _)] at hn
      simp at hn
      exact .inr ⟨rfl,hn.symm⟩
    rcases key a ha with ⟨l1,a1⟩ | ⟨a1,a2⟩<;>rcases key b hb with ⟨l2,b1⟩ | ⟨b1,b2⟩
    ·exact hr2.inj a b c a1 b1
    ·exact absurd (List.mem_of_getElem? a1) (b2▸hpc)
    ·exact absurd (List.mem_of_getElem? b1) (a2▸hpc)
    ·omega
   ·have ha:(ι2.c++[some p])[n]? = some (some a):=ha
    by_cases hlt':n<ι2.c.length
    ·rw [qac hlt'] at ha
     rw [qac (by omega)] at hc
     obtain ⟨o',e2',e3'⟩:=hr2.at_ n a c ha hc
     exact ⟨o',e2',e3'.pass ps⟩
    ·have:=(qab.mp ha).1
     rw [qao,List.length_singleton] at this
     have e:n=ι2.c.length:=by omega
     subst e
     rw [qaa (qaG _)] at ha
     rw [<- hl,qaa (qaG _)] at hc
     simp at ha hc
     subst ha
     subst hc
     exact ⟨_,e2,vs,rfl,rl2.pass ps⟩
   ·have hn:(ι2.c++[some p])[n]? = some none:=hn
    by_cases hlt':n<ι2.c.length
    ·rw [qac hlt'] at hn
     rw [qac (by omega)]
     exact hr2.dead n hn
    ·have:=(qab.mp hn).1
     rw [qao,List.length_singleton] at this
     have e:n=ι2.c.length:=by omega
     subst e
     rw [qaa (qaG _)] at hn
     simp at hn
   ·have h1:=hr2.hidt a (by rw [hx2];exact qaj _ ha)
    exact ⟨h1.1,fun z=>by
      rcases (hmem a).mp z with z | z
      · exact h1.2 z
      · exact hpx (z▸ha)⟩
  have q4:P (.cel h2.length) ⟨ι2.c++[some p],ι.x⟩ H2:=q3 _ _ st hr3
  rw [<- hP] at q4
  refine q4 (.ref p) ?_
  simp only [Rel]
  refine ⟨p,rfl,.inl ?_⟩
  show (ι2.c++[some p])[h2.length]? = _
  rw [hr2.len,qaa (qaG _)]
  simp
noncomputable def zeA (fi:Sd->M (List D)) (g:D->Sd->M Sd) (tc:Sd->M Bool) (te:Sd->M D) (src:List (Option Nat)):Sd->M D:=fun sd=>do
 let ds<-fi sd
 fits ds.length
 let ys<-zbt (zaT g tc te (zah src sd)) ds
 za2 ys
theorem zm0 {K:W.Frag} {fi:Sd->M (List D)} {g:D->Sd->M Sd} {tc:Sd->M Bool} {te:Sd->M D} (hk:zax g src) (σ:L2.St) (H:Hp) (Q:VK) (q:zhU K E (zeA fi g tc te src) σ H Q):
  zob (zuk K E fi) (ztt K E g) (zia K E tc) (zhU K E te) src σ H Q:=by
 obtain ⟨ι,h,sd,L,hh,q⟩:=q
 refine ⟨ι,h,sd,L,hh,Fin.bind q fun ds h1 ι1 H1 e1 s1 hr1 q1 J ok p hp=> ?_⟩
 obtain ⟨z,q2⟩:=Fin.fits q1
 exact zv0 hk (L.step s1) hr1 ok z q2 hp
theorem zk2 {fi:FA} {g:D->Sd->M Sd} {tc:FT} {te:FE} (hc:X.calm=true) (B:BOk X scope N src) (hk:zax g src) (hi:SI X E tg iter fi)
  (hg: ∀ s H fp,SG (cxB X scope N s H fp) E tg g) (ht: ∀ s H fp,SCs (cxB X scope N s H fp) E ifs tc) (he: ∀ s H fp,SE (cxB X scope N s H fp) E elt te)
  (hs: ∀ x,foldedSetIterable iter X.env x=pure x:=by intro _;rfl):SE X E (.ListComp elt [⟨tg,iter,ifs,0⟩] scope pos) (zeA fi g tc te src):=
 PE.imp (zlU B hi hg ht he hs) (zm0 hk)
end
end L3
namespace L3
open PySem
open Sem (wp)
open AutoSeq1 (wpAny_loadPart')
section
variable {prog:Program} {w:World} {A:Around} {E:Value->Shared->Prop} {s:Shared}
end
end L3
namespace L2
open PySem PySem.Spec PyProof.Rows
section
variable {X:Cx} {elts:List Expr} {k:Nat} {tpos:Pos}
end
end L2
namespace L3
open PySem PySem.Spec PyProof.Rows L2
section
variable {X:Cx} {E:XE} {elts:List Expr} {k:Nat} {tpos pos:Pos}
end
end L3
namespace L2
open PySem PySem.Spec PyProof.Rows
section
variable {κ:Type} [DecidableEq κ]
noncomputable def zoM (kvs:List (κ×V)) (k:κ) (v:V):List (κ×V):=
 if (kvs.any fun kv=>decide (kv.1=k))=true then kvs.map (fun kv=>if kv.1=k then (kv.1,v) else kv) else kvs++[(k,v)]
theorem zh4 (kvs:List (κ×V)) (k:κ) (v:V):(zoM kvs k v).length<=kvs.length+1:=by
 unfold zoM
 split
 ·rw [qax];omega
 ·rw [qao,qav,List.length_nil];omega
theorem KV.any {kvs:List (κ×V)} {vs:List (κ×Value)} (r:KV kvs vs) (k:κ):(kvs.any fun kv=>decide (kv.1=k))=vs.any fun kv=>decide (kv.1=k):=by
 unfold KV at r
 induction r with
 | nil=>rfl
 | cons h t ih=>rw [List.any_cons,List.any_cons,ih,h.1]
theorem KV.repl {kvs:List (κ×V)} {vs:List (κ×Value)} (r:KV kvs vs) (k:κ) {y:V} {u:Value} (ry:zbj y u):
  KV (kvs.map fun kv=>if kv.1=k then (kv.1,y) else kv) (vs.map fun kv=>if kv.1=k then (kv.1,u) else kv):=by
 unfold KV at r ⊢
 induction r with
 | nil=>exact .nil
 | @cons p q ps qs h t ih=>
  rw [qaz,qaz]
  refine .cons ?_ ih
  obtain ⟨h1,h2⟩:=h
  by_cases e:p.1=k
  ·rw [if_pos e,if_pos (h1.symm.trans e)];exact ⟨h1,ry⟩
  ·rw [if_neg e,if_neg (fun z=>e (h1.trans z))];exact ⟨h1,h2⟩
theorem KV.put {kvs:List (κ×V)} {vs:List (κ×Value)} (r:KV kvs vs) (k:κ) {y:V} {u:Value} (ry:zbj y u):KV (zoM kvs k y) (stored vs k u):=by
 unfold zoM stored
 rw [r.any k]
 by_cases e:(vs.any fun kv=>decide (kv.1=k))=true
 ·rw [if_pos e,if_pos e];exact r.repl k ry
 ·rw [if_neg e,if_neg e];exact Paired.snoc r ⟨rfl,ry⟩
theorem KV.length {kvs:List (κ×V)} {vs:List (κ×Value)} (r:KV kvs vs):kvs.length=vs.length:=Paired.length r
end
theorem ztV {P:Program} {w:World} {k:Key} {u:Value} (r:zbj (kV k) u):(zdX P w).is k u=true:=by
 cases k with
 | inl i=>obtain ⟨t,e⟩:=(show ∃ t,u=Value.int i t from r);subst e;exact zid P w i t
 | inr x=>obtain ⟨t,e⟩:=(show ∃ t,u=Value.str x t from r);subst e;exact zhZ P w x t
section
variable {X:Cx}
theorem zpD:zqa X (fun x y v H Q=> ∃ a kvs k,x= .ref a/\y=kV k/\H a=some (.dK kvs)/\kvs.length<sizeLine/\Q (upd H a (.dK (zoM kvs k v)))):=by
 intro pins s σ H o i v ov iv u Q I ro ri rv h
 obtain ⟨a,kvs,k,rfl,rfl,e,l,q⟩:=h
 cases ro
 obtain ⟨z,hd,vs,rel,dd⟩:=(show zbI X.prog X.w H s.heap a (.dK kvs) from I.hok a _ e)
 have hz:vs.length<=sizeLine:=by rw [<- rel.length];exact z
 have hl:(zoM kvs k v).length<=sizeLine:=by have:=zh4 kvs k v;omega
 refine wpAny_setItem_pairs (hsz:=hz) (ztV ri) dd fun h' dd' hs=>⟨_,?_,q⟩
 have he: ∃ q,h'.get? a=some q:=let ⟨q,_,_,hq,_⟩:=dd';⟨q,hq⟩
 exact I.write (x:=a) (e:=a) (by rw [e];exact True.intro) (.inl rfl) (fun b q hb z=>(hs.2 b hb).trans z) he ⟨hl,hd,_,rel.put k rv,dd'⟩
theorem zmo:zay X (.builtin "len") (fun xs H Q=> ∃ a kvs,xs=[V.ref a]/\H a=some (.dK kvs)/\Q (.int kvs.length) H):=by
 intro pins s σ H xs us Q I r h
 obtain ⟨a,kvs,rfl,ha,q⟩:=h
 obtain ⟨u,rfl,ru⟩:=zdp r
 cases ru
 obtain ⟨z,hd,vs,rel,dd⟩:=(show zbI X.prog X.w H s.heap a (.dK kvs) from I.hok a _ ha)
 refine PySem.call_len_dict hd dd (by rw [<- rel.length];rw [sizeLine_eq] at z;omega) ?_
 rw [<- rel.length]
 exact ⟨.int kvs.length,H,I.tok _,⟨_,rfl⟩,q⟩
end
end L2
namespace L3
open PySem PySem.Spec PyProof.Rows L2
section
variable {X:L2.Cx} {E:XE}
noncomputable def zlZ (kvs:List (Int×D)) (k:Int) (d:D):List (Int×D):=
 if (kvs.any fun p=>decide (p.1=k))=true then kvs.map (fun p=>if p.1=k then (p.1,d) else p) else kvs++[(k,d)]
noncomputable def zch (n:Nat):M (List (Int×D)):=fun h=>match h[n]? with
 | some (.dic kvs)=> .ok kvs h
 | _=> .bad
noncomputable def zeO (n:Nat) (kvs:List (Int×D)):M Unit:=fun h=> .ok () (h.set n (.dic kvs))
noncomputable def zva:FE:=fun _ h=> .ok (.cel h.length) (h++[.dic []])
theorem zvb {pos:Pos}:SE X E (.Dict [] [] pos) zva:=by
 refine PE.imp zm9 fun σ H Q ⟨ι,h,sd,L,hh,q⟩ p hp=> ?_
 exact zsa (E:=E) hh (c0:= .dic []) ⟨[],rfl,.nil⟩ q hp
noncomputable def zmR (o k d:D):M Unit:=match o,k with
 | .cel n,.int k=>do
  let kvs<-zch n
  fits (kvs.length+1)
  zeO n (zlZ kvs k d)
 | _,_=>M.bad
noncomputable def zu1 (fo fi:FE):D->Sd->M Sd:=fun d sd=>do let x<-fo sd;let y<-fi sd;zmR x y d;pure sd
theorem zqm {K:W.Frag} {ι:Io} {H:Hp} {kvs:List (Int×D)} {vs:List (Key×V)} {k:Int} {d:D} {v:V} (r:Paired (fun (p:Int×D) (q:Key×V)=>q.1= .inl p.1/\Rel K ι H p.2 q.2) kvs vs) (rv:Rel K ι H d v):
  Paired (fun (p:Int×D) (q:Key×V)=>q.1= .inl p.1/\Rel K ι H p.2 q.2) (zlZ kvs k d) (zoM vs (.inl k) v):=by
 have ha:(kvs.any fun p=>decide (p.1=k))=(vs.any fun p=>decide (p.1=(.inl k:Key))):=by
  induction r with
  | nil=>rfl
  | @cons p q ps qs h t ih=>
   rw [List.any_cons,List.any_cons,ih,h.1]
   congr 1
   rw [Bool.eq_iff_iff]
   simp only [qau]
   exact ⟨fun z=>by rw [z],fun z=>by injection z⟩
 unfold zlZ zoM
 rw [ha]
 by_cases e:(vs.any fun p=>decide (p.1=(.inl k:Key)))=true
 ·rw [if_pos e,if_pos e]
  clear ha e
  induction r with
  | nil=>exact .nil
  | @cons p q ps qs h t ih=>
   rw [qaz,qaz]
   refine .cons ?_ ih
   by_cases e:p.1=k
   ·rw [if_pos e,if_pos (by rw [h.1,e])];exact ⟨h.1,rv⟩
   ·rw [if_neg e,if_neg (fun z=>e (by rw [h.1] at z;injection z))];exact h
 ·rw [if_neg e,if_neg e]
  exact Paired.snoc r ⟨rfl,rv⟩
theorem zrs {o i:Expr} {pos:Pos} {fo fi:FE} (ho:SE X E o fo) (hi:SE X E i fi)
  (ha: ∀ v,assign (.Subscript o i pos) X.env v=(do
    let ov<-holding [v] (eval o X.env)
    let iv<-holding [v,ov] (eval i X.env)
    standAt pos
    holding [v,ov,iv] (setItem ov iv v)
    release [v,ov,iv] []):=by intro _;rfl):SG X E (.Subscript o i pos) (zu1 fo fi):=by
 refine PG.imp (zoU ho hi zpD ha) fun v σ H Q ⟨ι,h,sd,d,L,hr,rd,q⟩=>⟨ι,h,sd,L,hr,Fin.bind q fun x h1 ι1 H1 e1 s1 hr1 q1 xv rx=> ?_⟩
 refine ⟨ι1,h1,sd,L.step s1,hr1,Fin.bind q1 fun y h2 ι2 H2 e2 s2 hr2 q2 yv ry=> ?_⟩
 cases x with
 | cel n=>
  cases y with
  | int k=>
   have rx2:=rx.step s2
   have q3:Fin X.K E ι2 H2 ((zch n>>=fun kvs=>(fits (kvs.length+1)>>=fun _=>zeO n (zlZ kvs k d)>>=fun _=>pure sd)) h2) (fun sd' ι' H'=> ∀ σ',zbZ X.K ι' H' sd' σ'->Q σ' H'):=by
    have e:(do zmR (.cel n) (.int k) d;pure sd:M Sd)=(zch n>>=fun kvs=>(fits (kvs.length+1)>>=fun _=>zeO n (zlZ kvs k d)>>=fun _=>pure sd)):=by
     show ((zch n>>=fun kvs=>(fits (kvs.length+1)>>=fun _=>zeO n (zlZ kvs k d)))>>=fun _=>pure sd)=_
     rw [bind_assoc]
     congr 1
     funext kvs
     rw [bind_assoc]
    rw [<- e]
    exact q2
   simp only [Rel] at rx2 ry
   obtain ⟨a,rfl,hn⟩:=rx2
   have q4:Fin X.K E ι2 H2 (M.bind (zch n) (fun kvs=>(fits (kvs.length+1)>>=fun _=>zeO n (zlZ kvs k d)>>=fun _=>pure sd)) h2) (fun sd' ι' H'=> ∀ σ',zbZ X.K ι' H' sd' σ'->Q σ' H'):=q3
   unfold M.bind zch at q4
   rcases hn with hn | hn
   ·have hl:=hr2.len
    have hlt:=(qab.mp hn).1
    obtain ⟨c,hc⟩: ∃ c,h2[n]? = some c:=⟨h2[n],by simp [hl,hlt]⟩
    rw [hc] at q4
    obtain ⟨ob,e3,co⟩:=hr2.at_ n a c hn hc
    cases c with
    | dic kvs=>
     obtain ⟨vs,rfl,rp⟩:=co
     obtain ⟨hf,q5⟩:=Fin.fits q4
     have hlen:kvs.length=vs.length:=Paired.length rp
     refine ⟨a,vs,.inl k,rfl,ry,e3,by omega,?_⟩
     have rd2:=(rd.step s1).step s2
     refine q5 ι2 _ (hr2.cellS hn) (hr2.cellO hn (c':= .dic (zlZ kvs k d)) ⟨_,rfl,zqm rp rd2⟩) σ ?_
     exact ((L.step s1).step s2).step (hr2.cellS hn)
    | lst ds=>exact False.elim q4
    | dead=>exact False.elim q4
   ·rw [hr2.dead n hn] at q4
    exact False.elim q4
  | _=>exact False.elim q2
 | _=>exact False.elim q2
noncomputable def zp8:List D->M D:=zmc fun d=>match d with
 | .cel n=>do let kvs<-zch n;pure (.int kvs.length)
 | _=>M.bad
theorem zjA:zay X (.builtin "len") (zhD X.K E zp8):=by
 refine zay.imp zmo fun xs H Q ⟨ι,h,ds,rl,hr,q⟩=> ?_
 obtain ⟨d,v,e,r,q⟩:=zb3 rl q
 cases d with
 | cel n=>
  have q4:Fin X.K E ι H (M.bind (zch n) (fun kvs=>pure (D.int kvs.length)) h) (fun d ι' H'=> ∀ v,Rel X.K ι' H' d v->Q v H'):=q
  unfold M.bind zch at q4
  simp only [Rel] at r
  obtain ⟨a,rfl,hn⟩:=r
  rcases hn with hn | hn
  ·have hl:=hr.len
   have hlt:=(qab.mp hn).1
   obtain ⟨c,hc⟩: ∃ c,h[n]? = some c:=⟨h[n],by simp [hl,hlt]⟩
   rw [hc] at q4
   obtain ⟨ob,e3,co⟩:=hr.at_ n a c hn hc
   cases c with
   | dic kvs=>
    obtain ⟨vs,rfl,rp⟩:=co
    have hlen:kvs.length=vs.length:=Paired.length rp
    refine ⟨a,vs,e,e3,?_⟩
    rw [<- hlen]
    exact Fin.out hr q4 _ (by simp [Rel])
   | lst ds=>exact False.elim q4
   | dead=>exact False.elim q4
  ·rw [hr.dead n hn] at q4
   exact False.elim q4
 | _=>exact False.elim q
end
open LT
section
variable {h:Hh}
theorem zkx {n:Nat} {kvs:List (Int×D)} {P:List (Int×D)->Hh->Prop} (e:h[n]? = some (.dic kvs)):wp (zch n) h P↔P kvs h:=by
 unfold wp zch
 rw [e]
 exact ⟨fun ⟨b,h',e,q⟩=>by cases e;exact q,fun q=>⟨_,_,rfl,q⟩⟩
theorem zpA {n:Nat} {kvs:List (Int×D)} {P:Unit->Hh->Prop}:wp (zeO n kvs) h P↔P () (h.set n (.dic kvs)):=⟨fun ⟨b,h',e,q⟩=>by cases (show R.ok () (h.set n (.dic kvs))=R.ok b h' from e);exact q,fun q=>⟨_,_,rfl,q⟩⟩
theorem zpS {sd:Sd} {P:D->Hh->Prop}:wp (zva sd) h P↔P (.cel h.length) (h++[.dic []]):=⟨fun ⟨b,h',e,q⟩=>by cases (show R.ok (D.cel h.length) (h++[C.dic []])=R.ok b h' from e);exact q,fun q=>⟨_,_,rfl,q⟩⟩
theorem zsn {a b:FE} {d:D} {sd:Sd}:zu1 a b d sd=(do let x<-a sd;let y<-b sd;zmR x y d;pure sd):=rfl
theorem zq6 {n:Nat}:zp8 [.cel n]=(do let kvs<-zch n;pure (.int kvs.length)):=rfl
theorem zsJ {n:Nat} {k:Int} {d:D}:zmR (.cel n) (.int k) d=(do let kvs<-zch n;fits (kvs.length+1);zeO n (zlZ kvs k d)):=rfl
end
noncomputable def zcG (ks:List Int):List (Int×D):=ks.map fun k=>(k,.bl true)
theorem zn3 (ks:List Int) (k:Int):zlZ (zcG ks) k (.bl true)=zcG (step_dedup ks k):=by
 have e:((zcG ks).any fun p=>decide (p.1=k))=ks.any (· == k):=by
  unfold zcG
  rw [List.any_map]
  congr 1
 unfold zlZ step_dedup
 rw [e]
 by_cases h:ks.any (· == k)=true
 ·rw [if_pos h,if_pos h]
  unfold zcG
  rw [qaF]
  refine List.map_congr_left fun x _=> ?_
  simp only [Function.comp]
  split<;>rfl
 ·rw [if_neg h,if_neg h]
  unfold zcG
  rw [List.map_append]
  rfl
theorem zkW (ns:List Int):(ns.foldl step_dedup []).length=(zfm ns).length:=by
 unfold zfm
 rw [(zaU _).length_eq]
end L3
namespace L3
open PySem PySem.Spec PyProof.Rows L2
structure Fd (K:W.Frag) (x:Str) (st:Stmt) (a:Addr) (d:FuncData):Prop where
 e:W.nsIn K mainGlobals x=some (some (.ref a))
 F:Fun K x x st a d
section
variable {X:Cx} {E:XE}
noncomputable def zmr (x y:D):M D:=match x,y with
 | .lst xs,.int k=>if 0<=k/\k<1000/\xs.length*k.toNat<=sizeLine then pure (.lst (List.replicate k.toNat xs).flatten) else M.bad
 | _,_=>M.bad
theorem zqi:OpR X (binaryOp .Mult) (zcT X.K E zmr):=by
 refine OpR.imp zra fun x y H Q ⟨ι,h,d1,d2,r1,r2,hr,q⟩=> ?_
 unfold zmr at q
 split at q
 ·simp only [Rel] at r1 r2
  obtain ⟨a,vs,e,k1,k2⟩:=r1
  obtain ⟨⟨c2,c3,c4⟩,q⟩:=Fin.guard q
  exact ⟨a,_,vs,e,r2,k1.1,by omega,by omega,by rw [<- k2.length];exact c4,fun p hp=>zqI hr (k2.rep _) q hp⟩
 ·exact False.elim q
end
open LT
noncomputable def Gro (h h':Hh):Prop:= ∃ t,h'=h++t
theorem Gro.refl {h:Hh}:Gro h h:=⟨[],by simp⟩
theorem Gro.trans {h h1 h2:Hh} (a:Gro h h1) (b:Gro h1 h2):Gro h h2:=by
 obtain ⟨t,rfl⟩:=a
 obtain ⟨u,rfl⟩:=b
 exact ⟨t++u,by simp⟩
theorem Gro.get {h h':Hh} {n:Nat} {c:C} (g:Gro h h') (e:h[n]? = some c):h'[n]? = some c:=by
 obtain ⟨t,rfl⟩:=g
 rw [qac (qab.mp e).1]
 exact e
theorem Gro.ext {b:Nat} {h h':Hh} (q:Bx b h) (g:Gro h h'):Ext b h h':=by
 obtain ⟨z,e⟩:=q
 exact ⟨⟨z,g.get e⟩,fun n c _ e=>g.get e⟩
noncomputable def Ev {α:Type} (m:M α) (a:α):Prop:= ∀ h, ∃ h',m h= .ok a h'/\Gro h h'
section
variable {α β:Type} {m:M α} {a:α} {f:α->M β} {b:β} {h:Hh} {P:α->Hh->Prop}
theorem Ev.pure:Ev (Pure.pure a:M α) a:=fun h=>⟨h,rfl,.refl⟩
theorem Ev.of (e:m=Pure.pure a):Ev m a:=e▸ .pure
theorem Ev.bind (x:Ev m a) (y:Ev (f a) b):Ev (m>>=f) b:=fun h=>by
 obtain ⟨h1,e1,g1⟩:=x h
 obtain ⟨h2,e2,g2⟩:=y h1
 refine ⟨h2,?_,g1.trans g2⟩
 show M.bind m f h=_
 unfold M.bind
 rw [e1]
 exact e2
theorem Ev.wp (x:Ev m a) (k: ∀ h',Gro h h'->P a h'):wp m h P:=by
 obtain ⟨h1,e1,g1⟩:=x h
 exact ⟨a,h1,e1,k h1 g1⟩
theorem Ev.of_wp (x: ∀ h,L3.wp m h fun r h'=>r=a/\Gro h h'):Ev m a:=fun h=>by
 obtain ⟨r,h1,e1,rfl,g⟩:=x h
 exact ⟨h1,e1,g⟩
theorem Ev.noX (x:Ev m a):Ev (L3.noX m) a:=fun h=>by
 obtain ⟨h1,e1,g1⟩:=x h
 refine ⟨h1,?_,g1⟩
 unfold L3.noX
 rw [e1]
end
@[simp] theorem znO {α:Type} {a:α}:noX (pure a:M α)=pure a:=rfl
noncomputable def zfS {α:Type} (c:String):M α:=fun h=> .exc c h
@[simp] theorem zjC {α β:Type} {c:String} {f:α->M β}:((zfS c:M α)>>=f)=zfS c:=rfl
@[simp] theorem znq {c:String} {sd:Sd}:zfy c sd=zfS c:=rfl
theorem zst {n:Nat} {Fs:List (List D->M D)} {fi:FE} {fs:FA} {sd:Sd}:zt8 n Fs fi fs sd=(do let i<-fi sd;let F<-zrN Fs i;let ds<-fs sd;zat n F ds):=rfl
noncomputable def tI (xs:List Int):D:= .tup (xs.map D.int)
noncomputable def zcF (o:List Int×Int):D:= .tup [tI o.1,.int o.2]
noncomputable def zaR (m:Int) (os:List (List Int×Int)):D:= .tup [.int m,.tup (os.map zcF)]
structure Stk (m:Int) (os:List (List Int×Int)):Prop where
 m0:1<=m
 m1:m<=10
 len:os.length<=12
 up: ∀ o∈os,o.1.Pairwise (· < ·)
 bd: ∀ o∈os, ∀ x∈o.1,0<=x/\x<m
 ne: ∀ o∈os,o.1≠[]
 pos: ∀ o∈os,0<o.2
theorem Stk.olen {m:Int} {os:List (List Int×Int)} (s:Stk m os): ∀ o∈os,o.1.length<=10:=fun o ho=>by
 have h:=zgb (m:=m) (ts:=o.1.map D.int) (l:=0) (zcN.mpr ⟨s.up o ho,fun x hx=>s.bd o ho x hx⟩) (by have:=s.m0;omega)
 rw [qax] at h
 have:=s.m1
 omega
theorem zkr {fo fe:FE} {sd:Sd}:zig fo fe sd=(do let x<-fo sd;zdb x;let y<-fe sd;zdh x y):=rfl
theorem zo0 {n:Nat}:zdb (.cel n)=(do let _<-zaj n;pure ()):=rfl
theorem znv {n:Nat} {zs:List D}:zdh (.cel n) (.tup zs)=(do let ds<-zaj n;fits (ds.length+zs.length);zby n (ds++zs);pure .non):=rfl
theorem zgM {xs:List Int} {m:Int} (m0:0<=m) (h:xs.Pairwise (· < ·)) (b: ∀ x∈xs,0<=x/\x<m):(xs.length:Int)<=m:=by
 have:=zgb (m:=m) (ts:=xs.map D.int) (l:=0) (zcN.mpr ⟨h,b⟩) m0
 rw [qax] at this
 omega
theorem zmL {xs:List Int} {m:Int} (m0:0<=m) (b: ∀ x∈xs,0<=x/\x<m):((zfm xs).length:Int)<=m:=zgM m0 (zeY xs) fun x hx=>b x (zcp.mp hx)
theorem zib {xs:List Int} {m:Int} (m0:0<=m) (m1:m<=60) (b: ∀ x∈xs,0<=x/\x<m):(xs.foldl step_dedup []).length<64:=by
 have h:=zmL m0 b
 unfold zfm at h
 rw [(zaU _).length_eq] at h
 omega
theorem zg4 {n:Nat} {h:Hh} {xs:List Int} {P:D->Hh->Prop} (e:h[n]? = some (.lst (xs.map D.int))) (h1:(xs.foldl step_dedup []).length<64) (h2:xs.length<4000) (k:P (.lst ((zfm xs).map D.int)) h):wp (zdF (.cel n)) h P:=by
 unfold zdF
 show wp (zaj n>>=_) h P
 rw [zaq,zcL e]
 show wp (do let ns<-ofO (zc1 (xs.map D.int));if (ns.foldl step_dedup []).length<64/\ns.length<4000 then pure (.lst ((zfm ns).map D.int)) else M.bad:M D) h P
 rw [zdy]
 show wp (if (xs.foldl step_dedup []).length<64/\xs.length<4000 then (pure (.lst ((zfm xs).map D.int)):M D) else M.bad) h P
 rw [if_pos ⟨h1,h2⟩,zam]
 exact k
theorem zo7: ∀ {xs ys:List Int},xs.Pairwise (· < ·)->ys.Pairwise (· < ·)->(∀ k,k∈xs↔k∈ys)->xs=ys:=by
 intro xs ys hx hy hm
 have nx:xs.Nodup:=hx.imp fun z=>by omega
 have ny:ys.Nodup:=hy.imp fun z=>by omega
 have p:List.Perm xs ys:=(List.perm_ext_iff_of_nodup nx ny).mpr hm
 exact (zey p (hx.imp fun z=>by omega)).trans (zey (List.Perm.refl ys) (hy.imp fun z=>by omega)).symm
theorem zou {x y:D} {a b:PyData} (e1:pd x=some a) (e2:pd y=some b) (h:zew a b=true):dEq x y=pure (.bl (PyData.eqv a b)):=by
 show znH false x y=_
 unfold znH
 rw [e1,e2]
 simp only [h,if_true]
 rfl
theorem ztU (xs:List Int):pd (tI xs)=some (.tuple (xs.map PyData.int)):=by unfold tI pd;rw [zbN];rfl
theorem zqy (xs ys:List Int):dEq (.lst (xs.map D.int)) (.lst (ys.map D.int))=pure (.bl (xs==ys)):=by
 have e1:pd (.lst (xs.map D.int))=some (.list (xs.map PyData.int)):=by unfold pd;rw [zbN];rfl
 have e2:pd (.lst (ys.map D.int))=some (.list (ys.map PyData.int)):=by unfold pd;rw [zbN];rfl
 rw [zou e1 e2 (by unfold zew;simp [PyData.canLay0,za3,PyData.depth,zbB])]
 simp only [PyData.eqv,zej]
theorem zqv (xs:List Int):zuw [.lst (xs.map D.int)]=pure (.int xs.sum):=by
 show (do let bs<-ofO (zc1 (xs.map D.int));pure (.int bs.sum):M D)=_
 rw [zdy]
 rfl
noncomputable def gk (d:D):Prop:=kn d=true/\ ∀ ds,d= .tup ds->ds.length<64/\ ∀ x∈ds,kn x=true
theorem zu6 {xs:List Int} (h:xs.length<64):gk (tI xs):=⟨rfl,fun ds e=>by
  cases e
  exact ⟨by rw [qax];exact h,fun x hx=>by obtain ⟨i,_,rfl⟩:=List.mem_map.mp hx;rfl⟩⟩
noncomputable def ztB (n:Nat):D->Bool
 | .tup ds=>zcq n 0 ds
 | _=>false
theorem zeQ {os:List (List Int×Int)} {i:Int} (h0:0<=i) (h1:i<os.length):atI (os.map zcF) i=some (zcF (os.getD i.toNat ([],0))):=by
 have hl:i.toNat<os.length:=by omega
 have:=zgr (xs:=os.map zcF) (j:=i.toNat) (v:=zcF (os.getD i.toNat ([],0))) (by simp [hl,List.getD])
 rw [<- this]
 congr 1
 omega
noncomputable def zc3 (os:List (List Int×Int)) (ls:List Int):List (List Int×Int):=ls.map fun i=>os.getD i.toNat ([],0)
theorem ze7 {os:List (List Int×Int)} {ls:List Int} (b: ∀ x∈ls,0<=x/\x<os.length): ∀ o∈zc3 os ls,o∈os:=fun o ho=>by
 obtain ⟨i,hi,rfl⟩:=List.mem_map.mp ho
 have:=b i hi
 have hl:i.toNat<os.length:=by omega
 simp [List.getD,hl]
theorem zj7 {xs:List Int} (h:xs.Nodup):(zdS xs).Pairwise (· < ·):=by
 have h1:=zds xs
 have h2:(zdS xs).Nodup:=(zaU xs).nodup_iff.mpr h
 exact (List.pairwise_and_iff.mpr ⟨h1,h2⟩).imp fun z=>by have:=z.1;have:=z.2;omega
theorem zk5 {xs:List Int} {m:Int} (m0:0<=m) (h:xs.Nodup) (b: ∀ x∈xs,0<=x/\x<m):(xs.length:Int)<=m:=by
 rw [<- (zaU xs).length_eq]
 exact zgM m0 (zj7 h) fun x hx=>b x ((zaU xs).mem_iff.mp hx)
theorem zuP {i j:Int}:zps [.int i,.int j]=pure (.int (if j<i then j else i)):=rfl
theorem zve {i j:Int}:zqb [.int i,.int j]=pure (.int (if j>i then j else i)):=rfl
theorem zmY (xs:List Int):dNe (tI xs) (.tup [])=pure (.bl (!xs.isEmpty)):=by
 show znH true _ _=_
 unfold znH
 rw [ztU xs,show pd (.tup [])=some (.tuple []) from rfl]
 have c:zew (.tuple (xs.map PyData.int)) (.tuple [])=true:=by
  unfold zew
  simp [PyData.canLay0,PyData.canLayAll0,za3,PyData.depth,PyData.depthAll,zbB]
 simp only [c,if_true,PyData.eqv]
 cases xs<;>rfl
theorem zlj {b:Nat} {turn:D->M (Option D)} (ht: ∀ (i:Int) {h:Hh} {Q:Option D->Hh->Prop},Bx b h->(∀ o h',Ext b h h'->(o=none\/o=some (.int i))->Q o h')->wp (turn (.int i)) h Q):
  ∀ (is:List Int) {h:Hh} {P:List D->Hh->Prop},Bx b h->(∀ (ys:List Int) h',Ext b h h'->ys.Sublist is->P (ys.map D.int) h')->wp (zbt turn (is.map D.int)) h P
 | [],h,P,q,k=>by
  rw [List.map_nil,zbt,zam]
  exact k [] h (Ext.refl q) .slnil
 | i::r,h,P,q,k=>by
  rw [qaz,zbt,zaq]
  refine ht i q fun o h2 x2 ho=> ?_
  rw [zaq]
  refine zlj ht r x2.1 fun ys h3 x3 hl=> ?_
  rw [zam]
  rcases ho with rfl | rfl
  ·exact k ys h3 (x2.trans x3) (.cons _ hl)
  ·exact k (i::ys) h3 (x2.trans x3) (.cons₂ _ hl)
theorem zbQ (n:Nat):((List.range n).map fun (k:Nat)=>(k:Int)).Pairwise (· < ·):=by
 rw [List.pairwise_map]
 exact List.pairwise_lt_range.imp fun z=>by omega
theorem zcj {n:Nat}: ∀ x∈(List.range n).map fun (k:Nat)=>(k:Int),0<=x/\x<n:=fun x hx=>by
 obtain ⟨k,hk,rfl⟩:=List.mem_map.mp hx
 have:=List.mem_range.mp hk
 omega
noncomputable def EvX {α:Type} (m:M α) (c:String):Prop:= ∀ h, ∃ h',m h= .exc c h'/\Gro h h'
section
variable {α β:Type} {m:M α} {a:α} {f:α->M β} {c:String}
theorem EvX.raise:EvX (zfS c:M α) c:=fun h=>⟨h,rfl,.refl⟩
theorem EvX.of (e:m=zfS c):EvX m c:=e▸ .raise
theorem EvX.left (x:EvX m c):EvX (m>>=f) c:=fun h=>by
 obtain ⟨h1,e1,g1⟩:=x h
 refine ⟨h1,?_,g1⟩
 show M.bind m f h=_
 unfold M.bind
 rw [e1]
theorem Ev.bindX (x:Ev m a) (y:EvX (f a) c):EvX (m>>=f) c:=fun h=>by
 obtain ⟨h1,e1,g1⟩:=x h
 obtain ⟨h2,e2,g2⟩:=y h1
 refine ⟨h2,?_,g1.trans g2⟩
 show M.bind m f h=_
 unfold M.bind
 rw [e1]
 exact e2
end
theorem znE {names:List String} {gb:FS} {F:List D->M D} {sd:Sd} {i:Nat} {c:String} {d:D} (x:EvX (gb sd) c) (hc:names.contains c=true) (ek:F [.exn c]=pure d):Ev (zly names gb i F sd) (.nx ((List.replicate sd.length none).set i (some d))):=fun h=>by
 obtain ⟨h1,e1,g1⟩:=x h
 refine ⟨h1,?_,g1⟩
 unfold zly
 rw [e1]
 show (if names.contains c=true then (do let d<-noX (F [.exn c]);pure (.nx ((List.replicate sd.length none).set i (some d))):M Out) h1 else .bad)=_
 rw [if_pos hc,ek]
 rfl
theorem zrp {g:FS} {sd:Sd}:zuZ g sd=noX (g sd):=rfl
theorem zrA {g:FE} {sd:Sd}:zvx g sd=noX (g sd):=rfl
theorem zi6 (xs:List D) {k:Int} (h:0<=k):L3.zkf xs none (some k)=xs.take k.toNat:=by
 have e:=HT.zmB xs.length xs.length k.toNat
 rw [Int.toNat_of_nonneg h] at e
 unfold L3.zkf
 have e0:HT.sIx xs.length 0 none=0:=rfl
 rw [e0,e]
 simp
theorem ziI (xs:List D) {k:Int} (h:0<=k):L3.zkf xs (some k) none=xs.drop k.toNat:=by
 have e:=HT.zmB xs.length 0 k.toNat
 rw [Int.toNat_of_nonneg h] at e
 unfold L3.zkf
 have e0:HT.sIx xs.length xs.length none=xs.length:=rfl
 rw [e0,e]
 by_cases hk:k.toNat<=xs.length
 ·rw [Nat.min_eq_left hk,List.take_of_length_le (by rw [List.length_drop];omega)]
 ·rw [Nat.min_eq_right (by omega),List.drop_eq_nil_of_le (show xs.length<=k.toNat by omega)]
  simp
theorem zlm {xs:List Int} {m:Int} (m0:0<=m) (h:xs.Pairwise (· < ·)) (b: ∀ x∈xs,0<=x/\x<m):(xs==(List.range m.toNat).map fun (k:Nat)=>(k:Int))=((xs.length:Int)==m):=by
 rw [Bool.eq_iff_iff,beq_iff_eq,beq_iff_eq]
 constructor
 ·intro e
  rw [e]
  simp
  omega
 ·intro e
  refine zo7 h (zbQ _) fun k=>⟨fun hk=> ?_,fun hk=> ?_⟩
  ·obtain ⟨h1,h2⟩:=b k hk
   exact List.mem_map.mpr ⟨k.toNat,List.mem_range.mpr (by omega),by omega⟩
  ·have hb:=zcj k hk
   by_cases c:k∈xs
   ·exact c
   ·exfalso
    have:=zk5 (xs:=k::xs) m0 (List.nodup_cons.mpr ⟨c,h.imp fun z=>by omega⟩) fun x hx=>by
     rcases List.mem_cons.mp hx with rfl | hx
     ·omega
     ·exact b x hx
    rw [qav] at this
    omega
theorem zpx (bs:List Bool):zuS [.lst (bs.map D.bl)]=pure (.bl (bs.any id)):=by
 show (do let bs<-ofO (zlx (bs.map D.bl));pure (.bl (bs.any id)):M D)=_
 rw [zf4]
 rfl
end L3
namespace K82
open PySem PySem.Spec PyProof.Rows L2 L3
noncomputable def zdd:List String:=["NoStock","NoOffer","NoThing","NoCover","NoNumber","NotFull","NoRow"]
noncomputable def G_31:FS:=zao (zq0 (zaC zeM (zac (cOp dIx (zag 0) (cK (.int 0))) (zac (zag 1) zar))) (zee 2 (zbi (zaB 2) (zbi (zaB 3) zef)))) (zao (zq0 (zag 2) (zpC (zag 0) (cK (.int 0)))) (zco (zag 3)))
noncomputable def F_31:List D->M D:=zcZ 4 G_31
theorem d_31 (x0 x1:D):F_31 [x0,x1]=(do let o<-G_31 [some x0,some x1,none,none];zcV o):=rfl
noncomputable def zcd:FE:=zag 0
noncomputable def zcg:FT:=zcQ dLe (zaC (zat 2 F_31) (zac (zag 1) (zac (cK (.int 4)) zar))) (zag 2)
noncomputable def zbb:FS:=zao (zbx 8 (zav (zed (zac (zag 3) zar)) (zaB 0) zcg zcd [none,some 0,some 5])) (zao (sIf (zcQ dEq (zag 8) (zin zar)) (zbx 8 (zin (zac (zaC (zat 2 F_31) (zac (zag 0) (zac (zag 3) zar))) zar))) zfw) (zdl (zcv (zag 6) (ze9 (zac (zaC zc5 (zac (zag 8) zar)) (zac (cOp zdZ (cK (.int 1)) (zaC (zat 2 F_31) (zac (zag 0) (zac (zag 4) zar)))) zar))))))
noncomputable def G_32:FS:=zao (zbx 3 (cOp zdZ (cK (.int 1)) (zaC (zat 2 F_31) (zac (zag 0) (zac (zag 1) zar))))) (zao (zbx 4 (cOp dIx (zin (zac (cK (.int 1)) (zac (cK (.int 3)) (zac (cK (.int 20)) (zac (cOp ztG (cK (.int 10)) (cK (.int 20))) zar))))) (zaC (zat 2 F_31) (zac (zag 0) (zac (cK (.int 4)) zar))))) (zao (zbx 5 (zaC (zat 2 F_31) (zac (zag 0) (zac (cK (.int 3)) zar)))) (zao (zbx 6 (zhR zar)) (zao (zih (zed (zac (zaC (zat 2 F_31) (zac (zag 0) (zac (cOp zdZ (zag 2) (cK (.int 1))) zar))) zar)) (zaB 7) zbb) (zco (ze9 (zac (zag 3) (zac (zaC zc5 (zac (zag 6) zar)) zar))))))))
noncomputable def F_32:List D->M D:=zcZ 9 G_32
theorem d_32 (x0 x1 x2:D):F_32 [x0,x1,x2]=(do let o<-G_32 [some x0,some x1,some x2,none,none,none,none,none,none];zcV o):=rfl
noncomputable def zbO:FE:=zag 0
noncomputable def zbM:FT:=zcQ dIn (zag 1) (cOp dIx (zag 0) (cK (.int 0)))
noncomputable def zdr:FE:=zag 0
noncomputable def zcB:FT:=zcQ dEq (zav (iSq (zag 1)) (zaB 0) zbM zbO [none,some 0]) (zin zar)
noncomputable def G_33:FS:=zao (zq0 (zaC (zat 3 F_32) (zac (zag 0) (zac (zag 1) (zac (cOp zoK (zag 2) (cK (.int 1))) zar)))) (zee 2 (zbi (zaB 3) (zbi (zaB 4) zef)))) (zao (zbx 5 (zaC zc5 (zac (zav (zed (zac (zag 3) zar)) (zaB 0) zcB zdr [none,some 4]) zar))) (zao (zbx 6 (zaC (zat 2 F_31) (zac (zag 0) (zac (cOp zdZ (zaC zeL (zac (zag 4) zar)) (cK (.int 1))) zar)))) (zao (sIf (zcQ dNe (zag 5) (ze9 zar)) (zbx 4 (cOp zdZ (cOp zdZ (cSl (zag 4) zjH (zjO (zag 6))) (ze9 (zac (ze9 (zac (zag 5) (zac (cOp zdZ (cK (.int 1)) (zaC (zat 2 F_31) (zac (zag 0) (zac (cK (.int 9)) zar)))) zar))) zar))) (cSl (zag 4) (zjO (zag 6)) zjH))) zfw) (zco (ze9 (zac (zag 3) (zac (zag 4) zar)))))))
noncomputable def F_33:List D->M D:=zcZ 7 G_33
theorem d_33 (x0 x1 x2:D):F_33 [x0,x1,x2]=(do let o<-G_33 [some x0,some x1,some x2,none,none,none,none];zcV o):=rfl
noncomputable def G_28:FS:=zao (sIf (zcQ dLt (zag 1) (zaC zeL (zac (zag 0) zar))) (zco (cOp dIx (zag 0) (zag 1))) zfw) (zco (cOp zdZ (cOp zqG (cK (.int 6151)) (zag 1)) (cK (.int 29))))
noncomputable def F_28:List D->M D:=zcZ 2 G_28
theorem d_28 (x0 x1:D):F_28 [x0,x1]=(do let o<-G_28 [some x0,some x1];zcV o):=rfl
noncomputable def G_29:FS:=zao (zbx 2 (cOp zdZ (cOp zgj (cOp zdZ (zag 0) (cK (.int 1))) (cK (.int 40692))) (cOp zgj (cK (.int 104729)) (zag 1)))) (zao (zbx 2 (cOp zdZ (cOp zqU (cOp zgj (zag 2) (zag 2)) (cK (.int 2147483399))) (zag 1))) (zco (cOp zqU (cOp zgj (zag 2) (cOp zdZ (zag 2) (cK (.int 31)))) (cK (.int 2147483563)))))
noncomputable def F_29:List D->M D:=zcZ 3 G_29
theorem d_29 (x0 x1:D):F_29 [x0,x1]=(do let o<-G_29 [some x0,some x1,none];zcV o):=rfl
noncomputable def zcK:FS:=zbx 3 (cOp zdZ (cOp zgj (zag 3) (cK (.int 2147483647))) (zaC (zat 2 F_29) (zac (zag 2) (zac (zag 4) zar))))
noncomputable def G_30:FS:=zao (zbx 2 (zaC (zat 2 F_28) (zac (zag 0) (zac (zag 1) zar)))) (zao (sIf (zcQ dEq (cOp zqU (zag 2) (cK (.int 2))) (cK (.int 0))) (zco (zhR (zac (cOp zpl (zag 2) (cK (.int 2))) zar))) zfw) (zao (zbx 3 (cK (.int 0))) (zao (zih (zed (zac (cK (.int 24)) zar)) (zaB 4) zcK) (zco (zhR (zac (zag 3) zar))))))
noncomputable def F_30:List D->M D:=zcZ 5 G_30
theorem d_30 (x0 x1:D):F_30 [x0,x1]=(do let o<-G_30 [some x0,some x1,none,none,none];zcV o):=rfl
noncomputable def zbn:FE:=zag 0
noncomputable def zbm:FT:=zcQ dEq (cOp zqU (cOp ztP (zag 1) (zag 0)) (cK (.int 2))) (cK (.int 1))
noncomputable def zbs:FS:=zq0 (cK (.bl true)) (zu1 (zag 4) (zag 7))
noncomputable def zbo:FS:=zao (zbx 5 (cOp zdZ (zag 5) (cOp dIx (cOp dIx (cOp dIx (zag 0) (cK (.int 1))) (zag 6)) (cK (.int 1))))) (zih (iSq (cOp dIx (cOp dIx (cOp dIx (zag 0) (cK (.int 1))) (zag 6)) (cK (.int 0)))) (zaB 7) zbs)
noncomputable def zbk:FS:=zao (zbx 3 (zaC zc5 (zac (zav (zed (zac (zaC zeL (zac (cOp dIx (zag 0) (cK (.int 1))) zar)) zar)) (zaB 0) zbm zbn [none,some 2]) zar))) (zao (zbx 4 zva) (zao (zbx 5 (cK (.int 0))) (zao (zih (iSq (zag 3)) (zaB 6) zbo) (sIf (zcQ dEq (zaC zp8 (zac (zag 4) zar)) (cOp dIx (zag 0) (cK (.int 0)))) (zdl (zcv (zag 1) (ze9 (zac (zag 5) (zac (zag 3) zar))))) zfw))))
noncomputable def G_34:FS:=zao (zbx 1 (zhR zar)) (zao (zih (zed (zac (cOp zuV (cK (.int 1)) (zaC zeL (zac (cOp dIx (zag 0) (cK (.int 1))) zar))) zar)) (zaB 2) zbk) (zco (zaC ziz (zac (zag 1) zar))))
noncomputable def F_34:List D->M D:=zcZ 8 G_34
theorem d_34 (x0:D):F_34 [x0]=(do let o<-G_34 [some x0,none,none,none,none,none,none,none];zcV o):=rfl
noncomputable def G_8:FS:=zco (zrq (cUn (zhE "int") (zag 0)) (zty (cUn (zhE "bool") (zag 0))))
noncomputable def F_8:List D->M D:=zcZ 1 G_8
theorem d_8 (x0:D):F_8 [x0]=(do let o<-G_8 [some x0];zcV o):=rfl
noncomputable def G_14:FS:=sIf (tOr (zkj (zki (zaC (zat 1 fun ds=>noX (F_8 ds)) (zac (zag 1) zar)))) (tOr (zcQ dLt (zag 1) (cK (.int 0))) (zcQ dGe (zag 1) (zaC zeL (zac (cOp dIx (zag 0) (cK (.int 1))) zar))))) (zfy "NoOffer") zfw
noncomputable def F_14:List D->M D:=zcZ 2 G_14
theorem d_14 (x0 x1:D):F_14 [x0,x1]=(do let o<-G_14 [some x0,some x1];zcV o):=rfl
noncomputable def zaW:FS:=zdl (zig (zag 1) (cOp dIx (zag 2) (cK (.int 0))))
noncomputable def G_17:FS:=zao (zbx 1 (zhR zar)) (zao (zih (iSq (zag 0)) (zaB 2) zaW) (zco (zaC zc5 (zac (cUn zdF (zag 1)) zar))))
noncomputable def F_17:List D->M D:=zcZ 3 G_17
theorem d_17 (x0:D):F_17 [x0]=(do let o<-G_17 [some x0,none,none];zcV o):=rfl
noncomputable def G_18:FS:=zco (cOp dEq (zaC zeL (zac (zaC (zat 1 F_17) (zac (zag 1) zar)) zar)) (cOp dIx (zag 0) (cK (.int 0))))
noncomputable def F_18:List D->M D:=zcZ 2 G_18
theorem d_18 (x0 x1:D):F_18 [x0,x1]=(do let o<-G_18 [some x0,some x1];zcV o):=rfl
noncomputable def G_11:FS:=zco (zaC (zat 2 F_18) (zac (zag 0) (zac (cOp dIx (zag 0) (cK (.int 1))) zar)))
noncomputable def F_11:List D->M D:=zcZ 1 G_11
theorem d_11 (x0:D):F_11 [x0]=(do let o<-G_11 [some x0];zcV o):=rfl
noncomputable def G_13:FS:=sIf (zkj (zki (zaC (zat 1 fun ds=>noX (F_11 ds)) (zac (zag 0) zar)))) (zfy "NotFull") zfw
noncomputable def F_13:List D->M D:=zcZ 1 G_13
theorem d_13 (x0:D):F_13 [x0]=(do let o<-G_13 [some x0];zcV o):=rfl
noncomputable def zcr:FS:=zao (zbx 2 (cOp zqG (zag 2) (cK (.int 2)))) (sIf (zcQ dIn (zag 3) (zag 1)) (zbx 2 (cOp zdZ (zag 2) (cK (.int 1)))) zfw)
noncomputable def G_21:FS:=zao (zbx 2 (cK (.int 0))) (zao (zih (zed (zac (zag 0) zar)) (zaB 3) zcr) (zco (zag 2)))
noncomputable def F_21:List D->M D:=zcZ 4 G_21
theorem d_21 (x0 x1:D):F_21 [x0,x1]=(do let o<-G_21 [some x0,some x1,none,none];zcV o):=rfl
noncomputable def zb9:FE:=ze9 (zac (cOp zdZ (cOp dIx (zag 1) (cK (.int 1))) (cOp dIx (zag 0) (cK (.int 0)))) (zac (cOp zdZ (ze9 (zac (zag 2) zar)) (cOp dIx (zag 0) (cK (.int 1)))) (zac (cOp dOr (zag 3) (cOp dIx (zag 0) (cK (.int 2)))) zar)))
noncomputable def zba:FS:=zao (zbx 3 (cOp dIx (cOp dIx (zag 0) (cK (.int 1))) (zag 2))) (zao (zbx 4 (zaC (zat 2 F_21) (zac (cOp dIx (zag 0) (cK (.int 0))) (zac (cOp dIx (zag 3) (cK (.int 0))) zar)))) (zao (zbx 5 (zav (iSq (zag 1)) (zaB 0) (fun _=>pure true) zb9 [none,some 3,some 2,some 4])) (zbx 1 (cOp zdZ (cOp zdZ (cSl (zag 1) zjH (zjO (cK (.int 1)))) (zag 5)) (cSl (zag 1) (zjO (cK (.int 1))) zjH)))))
noncomputable def G_20:FS:=zao (zbx 1 (zin (zac (ze9 (zac (cK (.int 0)) (zac (ze9 zar) (zac (cK (.int 0)) zar)))) zar))) (zao (zih (zqs (zac (cOp zoK (zaC zeL (zac (cOp dIx (zag 0) (cK (.int 1))) zar)) (cK (.int 1))) (zac (cUn zol (cK (.int 1))) (zac (cUn zol (cK (.int 1))) zar)))) (zaB 2) zba) (zco (zag 1)))
noncomputable def F_20:List D->M D:=zcZ 6 G_20
theorem d_20 (x0:D):F_20 [x0]=(do let o<-G_20 [some x0,none,none,none,none,none];zcV o):=rfl
noncomputable def zbD:FE:=ze9 (zac (cOp dIx (zag 0) (cK (.int 0))) (zac (cOp dIx (zag 0) (cK (.int 1))) zar))
noncomputable def zbF:FT:=zcQ dEq (cOp dIx (zag 0) (cK (.int 2))) (zag 1)
noncomputable def G_19:FS:=zao (zbx 1 (zaC (zat 2 F_21) (zac (cOp dIx (zag 0) (cK (.int 0))) (zac (cUn zf8 (cOp dIx (zag 0) (cK (.int 0)))) zar)))) (zco (zav (iSq (zaC (zat 1 F_20) (zac (zag 0) zar))) (zaB 0) zbF zbD [none,some 1]))
noncomputable def F_19:List D->M D:=zcZ 2 G_19
theorem d_19 (x0:D):F_19 [x0]=(do let o<-G_19 [some x0,none];zcV o):=rfl
noncomputable def za7:FE:=zag 0
noncomputable def za6:FT:=zcQ zi5 (zag 1) (cOp dIx (zag 0) (cK (.int 1)))
noncomputable def G_23:FS:=zao (zdl (zaC (zat 2 F_14) (zac (zag 0) (zac (zag 1) zar)))) (zao (zdl (zaC (zat 1 F_13) (zac (zag 0) zar))) (zao (zuZ (zbx 2 (zav (iSq (zaC (zat 1 F_19) (zac (zag 0) zar))) (zaB 0) za6 za7 [none,some 1]))) (zco (cIf (zqX (zag 2)) (cOp dIx (zaC zk6 (zac (zag 2) zar)) (cK (.int 1))) (cK .non)))))
noncomputable def F_23:List D->M D:=zcZ 3 G_23
theorem d_23 (x0 x1:D):F_23 [x0,x1]=(do let o<-G_23 [some x0,some x1,none];zcV o):=rfl
noncomputable def za4:FS:=zao (sIf (tOr (zkj (zki (zaC (zat 1 F_8) (zac (zag 3) zar)))) (tOr (zcQ dLt (zag 3) (zag 2)) (zcQ dGe (zag 3) (zag 1)))) (zco (cK (.bl false))) zfw) (zbx 2 (cOp zdZ (zag 3) (cK (.int 1))))
noncomputable def G_9:FS:=zao (sIf (zkj (zki (cUn (zhE "tuple") (zag 0)))) (zco (cK (.bl false))) zfw) (zao (zbx 2 (cK (.int 0))) (zao (zih (iSq (zag 0)) (zaB 3) za4) (zco (cK (.bl true)))))
noncomputable def F_9:List D->M D:=zcZ 4 G_9
theorem d_9 (x0 x1:D):F_9 [x0,x1]=(do let o<-G_9 [some x0,some x1,none,none];zcV o):=rfl
noncomputable def G_10:FS:=zco (zaC (zat 2 F_9) (zac (zag 1) (zac (zaC zeL (zac (cOp dIx (zag 0) (cK (.int 1))) zar)) zar)))
noncomputable def F_10:List D->M D:=zcZ 2 G_10
theorem d_10 (x0 x1:D):F_10 [x0,x1]=(do let o<-G_10 [some x0,some x1];zcV o):=rfl
noncomputable def G_15:FS:=sIf (zkj (zki (zaC (zat 2 fun ds=>noX (F_10 ds)) (zac (zag 0) (zac (zag 1) zar))))) (zfy "NoCover") zfw
noncomputable def F_15:List D->M D:=zcZ 2 G_15
theorem d_15 (x0 x1:D):F_15 [x0,x1]=(do let o<-G_15 [some x0,some x1];zcV o):=rfl
noncomputable def zdB:FE:=cOp dIx (cOp dIx (zag 1) (cK (.int 1))) (zag 0)
noncomputable def G_16:FS:=zao (zdl (zaC (zat 2 F_15) (zac (zag 0) (zac (zag 1) zar)))) (zco (zav (iSq (zag 1)) (zaB 0) (fun _=>pure true) zdB [none,some 0]))
noncomputable def F_16:List D->M D:=zcZ 2 G_16
theorem d_16 (x0 x1:D):F_16 [x0,x1]=(do let o<-G_16 [some x0,some x1];zcV o):=rfl
noncomputable def zcI:FE:=cOp dIx (zag 0) (cK (.int 1))
noncomputable def G_12:FS:=zco (zaC zuw (zac (zav (iSq (zaC (zat 2 F_16) (zac (zag 0) (zac (zag 1) zar)))) (zaB 0) (fun _=>pure true) zcI [none]) zar))
noncomputable def F_12:List D->M D:=zcZ 2 G_12
theorem d_12 (x0 x1:D):F_12 [x0,x1]=(do let o<-G_12 [some x0,some x1];zcV o):=rfl
noncomputable def zbE:FE:=zag 0
noncomputable def zbA:FT:=zcQ dIn (zag 1) (cOp dIx (zag 0) (cK (.int 1)))
noncomputable def G_22:FS:=zao (zdl (zaC (zat 2 F_14) (zac (zag 0) (zac (zag 1) zar)))) (zao (zdl (zaC (zat 1 F_13) (zac (zag 0) zar))) (zco (cOp dIx (zaC zk6 (zac (zav (iSq (zaC (zat 1 fun ds=>noX (F_19 ds)) (zac (zag 0) zar))) (zaB 0) zbA zbE [none,some 1]) zar)) (cK (.int 1)))))
noncomputable def F_22:List D->M D:=zcZ 2 G_22
theorem d_22 (x0 x1:D):F_22 [x0,x1]=(do let o<-G_22 [some x0,some x1];zcV o):=rfl
noncomputable def G_24:FS:=zao (zbx 2 (zaC (zat 2 F_23) (zac (zag 0) (zac (zag 1) zar)))) (zao (sIf (zcQ zqW (zag 2) (cK .non)) (zco (cK .non)) zfw) (zao (zbx 3 (cOp zoK (zaC (zat 2 F_12) (zac (zag 0) (zac (zaC (zat 2 F_22) (zac (zag 0) (zac (zag 1) zar))) zar))) (cOp dIx (cOp dIx (cOp dIx (zag 0) (cK (.int 1))) (zag 1)) (cK (.int 1))))) (zco (cOp zoK (zaC (zat 2 F_12) (zac (zag 0) (zac (zag 2) zar))) (zag 3)))))
noncomputable def F_24:List D->M D:=zcZ 4 G_24
theorem d_24 (x0 x1:D):F_24 [x0,x1]=(do let o<-G_24 [some x0,some x1,none,none];zcV o):=rfl
noncomputable def G_35:FS:=zco (zrq (cUn (zhE "int") (zag 0)) (zty (cUn (zhE "bool") (zag 0))))
noncomputable def F_35:List D->M D:=zcZ 1 G_35
theorem d_35 (x0:D):F_35 [x0]=(do let o<-G_35 [some x0];zcV o):=rfl
noncomputable def zbf:FE:=cOp dIx (zag 0) (cK (.int 1))
noncomputable def zbe:FT:=zcQ dEq (cOp dIx (zag 0) (cK (.int 0))) (zag 1)
noncomputable def G_27:FS:=zao (zdl (zaC (zat 1 F_13) (zac (zag 0) zar))) (zao (zbx 1 (zaC (zat 1 F_19) (zac (zag 0) zar))) (zao (zbx 2 (cOp dIx (zaC zk6 (zac (zag 1) zar)) (cK (.int 0)))) (zco (zav (iSq (zag 1)) (zaB 0) zbe zbf [none,some 2]))))
noncomputable def F_27:List D->M D:=zcZ 3 G_27
theorem d_27 (x0:D):F_27 [x0]=(do let o<-G_27 [some x0,none,none];zcV o):=rfl
noncomputable def zdi:FE:=cOp dIn (zag 1) (zag 0)
noncomputable def zdn:FE:=zag 0
noncomputable def zdj:FT:=zki (zaC zuS (zac (zav (iSq (zag 1)) (zaB 0) (fun _=>pure true) zdi [none,some 0]) zar))
noncomputable def G_25:FS:=zao (zbx 1 (zaC (zat 1 F_27) (zac (zag 0) zar))) (zco (zeA (zed (zac (zaC zeL (zac (cOp dIx (zag 0) (cK (.int 1))) zar)) zar)) (zaB 0) zdj zdn [none,some 1]))
noncomputable def F_25:List D->M D:=zcZ 2 G_25
theorem d_25 (x0:D):F_25 [x0]=(do let o<-G_25 [some x0,none];zcV o):=rfl
noncomputable def zdW:FE:=cOp dIn (zag 1) (zag 0)
noncomputable def zdG:FE:=zag 0
noncomputable def zdL:FT:=zki (zaC zuD (zac (zav (iSq (zag 1)) (zaB 0) (fun _=>pure true) zdW [none,some 0]) zar))
noncomputable def G_26:FS:=zao (zbx 1 (zaC (zat 1 F_27) (zac (zag 0) zar))) (zco (zeA (zed (zac (zaC zeL (zac (cOp dIx (zag 0) (cK (.int 1))) zar)) zar)) (zaB 0) zdL zdG [none,some 1]))
noncomputable def F_26:List D->M D:=zcZ 2 G_26
theorem d_26 (x0:D):F_26 [x0]=(do let o<-G_26 [some x0,none];zcV o):=rfl
noncomputable def G_36:FS:=zao (zbx 1 (zin (zac (cUn (zov zdd "NoNumber") (zag 0)) (zac (cUn (zov zdd "NoCover") (zag 0)) (zac (cUn (zov zdd "NotFull") (zag 0)) (zac (cUn (zov zdd "NoOffer") (zag 0)) zar)))))) (zao (zbx 1 (cOp zdZ (zag 1) (zin (zac (cUn (zov zdd "NoThing") (zag 0)) (zac (cUn (zov zdd "NoStock") (zag 0)) (zac (cUn (zov zdd "NoRow") (zag 0)) (zac (cK (.bl true)) zar))))))) (zco (cOp dIx (zin (zac (cK (.str "number")) (zac (cK (.str "cover")) (zac (cK (.str "full")) (zac (cK (.str "offer")) (zac (cK (.str "thing")) (zac (cK (.str "stock")) (zac (cK (.str "row")) (zac (cK (.str "other")) zar))))))))) (cUn zsw (zag 1)))))
noncomputable def F_36:List D->M D:=zcZ 2 G_36
theorem d_36 (x0:D):F_36 [x0]=(do let o<-G_36 [some x0,none];zcV o):=rfl
noncomputable def G_37:FS:=zao (zbx 2 (cK (.str "told"))) (zao (zly zdd (zdl (zaC (zat 2 F_24) (zac (zag 0) (zac (zag 1) zar)))) 2 F_36) (zco (zag 2)))
noncomputable def F_37:List D->M D:=zcZ 4 G_37
theorem d_37 (x0 x1:D):F_37 [x0,x1]=(do let o<-G_37 [some x0,some x1,none,none];zcV o):=rfl
noncomputable def ziv:FE:=zag 0
noncomputable def zhW:FT:=zcQ zi5 (zag 2) (zag 1)
noncomputable def zh5:FE:=cOp zoK (zag 0) (cOp dIx (cOp dIx (cOp dIx (zag 3) (cK (.int 1))) (zag 2)) (cK (.int 1)))
noncomputable def zit:FT:=zcQ dIn (zag 2) (zag 1)
noncomputable def zeB:FS:=zao (zbx 6 (zav (iSq (zag 3)) (zee 2 (zbi (zaB 0) (zbi (zaB 1) zef))) zhW ziv [none,none,some 5])) (zao (zbx 7 (zav (iSq (zag 3)) (zee 2 (zbi (zaB 0) (zbi (zaB 1) zef))) zit zh5 [none,none,some 5,some 2])) (zao (zbx 8 (zaC (zat 2 F_24) (zac (zag 2) (zac (zag 5) zar)))) (sIf (zcQ zke (zag 6) (zin zar)) (sIf (zcQ zpZ (zag 8) (cK .non)) (zco (cK (.bl false))) zfw) (sIf (tOr (zkj (zki (zaC (zat 1 F_35) (zac (zag 8) zar)))) (zcQ zkd (zag 8) (cOp zoK (cOp dIx (zag 6) (cK (.int 0))) (cOp dIx (zag 7) (cK (.int 0)))))) (zco (cK (.bl false))) zfw))))
noncomputable def zhN:FE:=zag 1
noncomputable def zh0:FT:=zcQ zke (zag 0) (cOp dIx (cOp dIx (zag 2) (cK (.int 0))) (cK (.int 0)))
noncomputable def zim:FE:=zag 0
noncomputable def zh1:FT:=zcQ dIn (zag 1) (zag 0)
noncomputable def zik:FE:=zaC zeL (zac (zav (iSq (zag 1)) (zaB 0) zh1 zim [none,some 0]) zar)
noncomputable def zio:FE:=zag 0
noncomputable def zhH:FT:=zcQ dGt (cOp dIx (zag 1) (zag 0)) (cK (.int 0))
noncomputable def zh7:FE:=zag 0
noncomputable def ziu:FT:=zcQ zke (cOp dIx (zag 1) (zag 0)) (zaC zeL (zac (zag 2) zar))
noncomputable def zeD:FS:=zao (zbx 12 (zaC (zat 1 F_25) (zac (zag 2) zar))) (zao (zbx 13 (zaC (zat 1 F_26) (zac (zag 2) zar))) (zao (zbx 14 (zav (zed (zac (zag 4) zar)) (zaB 0) zhH zio [none,some 10])) (zao (sIf (tOr (zkj (zki (cUn (zhE "list") (zag 12)))) (zcQ zkd (zag 12) (zag 14))) (zco (cK (.bl false))) zfw) (zao (zbx 14 (zav (zed (zac (zag 4) zar)) (zaB 0) ziu zh7 [none,some 10,some 9])) (zao (sIf (tOr (zkj (zki (cUn (zhE "list") (zag 13)))) (zcQ zkd (zag 13) (zag 14))) (zco (cK (.bl false))) zfw) (zao (zdl (zcv (zag 12) (cK (.int 0)))) (zdl (zcv (zag 13) (cK (.int 0))))))))))
noncomputable def zgd:FE:=zaC (zat 2 F_37) (zac (zag 1) (zac (zag 0) zar))
noncomputable def zfc:FS:=zao (zbx 2 (zaC (zat 3 F_33) (zac (zaC (zat 2 F_30) (zac (zag 0) (zac (zag 1) zar))) (zac (cK (.int 6)) (zac (cK (.int 8)) zar))))) (zao (zbx 3 (zaC (zat 1 F_34) (zac (zag 2) zar))) (zao (zbx 4 (zaC zeL (zac (cOp dIx (zag 2) (cK (.int 1))) zar))) (zao (zih (zed (zac (zag 4) zar)) (zaB 5) zeB) (zao (zbx 9 (zav (iSq (zag 3)) (zee 2 (zbi (zaB 0) (zbi (zaB 1) zef))) zh0 zhN [none,none,some 3])) (zao (zbx 10 (zav (zed (zac (zag 4) zar)) (zaB 0) (fun _=>pure true) zik [none,some 9])) (zao (zih (zed (zac (cK (.int 2)) zar)) (zaB 11) zeD) (sIf (zcQ zkd (zav (iSq (zin (zac (zag 4) (zac (cUn zol (cK (.int 1))) (zac (cK (.bl true)) (zac (cK .non) zar)))))) (zaB 0) (fun _=>pure true) zgd [none,some 2]) (cOp zmr (zin (zac (cK (.str "offer")) zar)) (cK (.int 4)))) (zco (cK (.bl false))) zfw)))))))
noncomputable def G_38:FS:=zao (zih (zed (zac (zaC zqb (zac (cK (.int 1)) (zac (zaC zps (zac (zaC zeL (zac (zag 0) zar)) (zac (cK (.int 4)) zar))) zar))) zar)) (zaB 1) zfc) (zco (zrq (cOp zke (zaC (zat 2 F_37) (zac (ze9 (zac (cK (.int 2)) (zac (ze9 (zac (ze9 (zac (ze9 (zac (cK (.int 0)) zar)) (zac (cK (.int 1)) zar))) zar)) zar))) (zac (cK (.int 0)) zar))) (cK (.str "full"))) (cOp zqW (zaC (zat 2 F_24) (zac (ze9 (zac (cK (.int 1)) (zac (ze9 (zac (ze9 (zac (ze9 (zac (cK (.int 0)) zar)) (zac (cK (.int 4)) zar))) zar)) zar))) (zac (cK (.int 0)) zar))) (cK .non))))
noncomputable def F_38:List D->M D:=zcZ 15 G_38
theorem d_38 (x0:D):F_38 [x0]=(do let o<-G_38 [some x0,none,none,none,none,none,none,none,none,none,none,none,none,none,none];zcV o):=rfl
end K82
set_option genInjectivity false
set_option genSizeOf false
set_option genSizeOfSpec false
namespace K82
open PySem PySem.Spec PyProof.Rows L2 L3
noncomputable def top (i:Nat):Stmt:=PySem.Challenge.pw_cheapcovers_k82_reaches_of_offers.main.body.getD i (.Pass ⟨0,0,0,0⟩)
theorem zdo {A:Around} {k:Nat} (hr:zda k A):A.units+60<cLine:=by have:=hr.units;omega
theorem zrJ {P:Program} {w:World} {K:W.Frag} {mg:Str->Option Value} {base:Heap} {N:List Str} {qual:Str} {scope:Scope} {f:Addr} {cd:Value} {A:Around} {outer:List Env} {s:Shared} {H:Hp} {E:XK}:zeJ (zhC CX0 P w K mg base N qual scope f cd A outer s H E).nox:=⟨rfl,rfl,rfl⟩
theorem zs1:bootBuiltins "all"=some (.builtin "all"):=by decide +kernel
theorem zrT:bootBuiltins "any"=some (.builtin "any"):=by decide +kernel
theorem zkl:bootBuiltins "bool"=some (.type "bool"):=by decide +kernel
theorem zlk:bootBuiltins "divmod"=some (.builtin "divmod"):=by decide +kernel
theorem zoJ:bootBuiltins "int"=some (.type "int"):=by decide +kernel
theorem zbX:bootBuiltins "len"=some (.builtin "len"):=by decide +kernel
theorem zml:bootBuiltins "list"=some (.type "list"):=by decide +kernel
theorem ztw:bootBuiltins "max"=some (.builtin "max"):=by decide +kernel
theorem zi0:bootBuiltins "min"=some (.builtin "min"):=by decide +kernel
theorem zli:bootBuiltins "sorted"=some (.builtin "sorted"):=by decide +kernel
theorem zrH:bootBuiltins "sum"=some (.builtin "sum"):=by decide +kernel
theorem zcU:bootBuiltins "tuple"=some (.type "tuple"):=by decide +kernel
noncomputable abbrev s_31:Stmt:=top 37
noncomputable abbrev s_32:Stmt:=top 38
noncomputable abbrev s_33:Stmt:=top 39
noncomputable abbrev s_28:Stmt:=top 34
noncomputable abbrev s_29:Stmt:=top 35
noncomputable abbrev s_30:Stmt:=top 36
noncomputable abbrev s_34:Stmt:=top 40
noncomputable abbrev s_8:Stmt:=top 10
noncomputable abbrev s_14:Stmt:=top 17
noncomputable abbrev s_17:Stmt:=top 20
noncomputable abbrev s_18:Stmt:=top 21
noncomputable abbrev s_11:Stmt:=top 14
noncomputable abbrev s_13:Stmt:=top 16
noncomputable abbrev s_21:Stmt:=top 25
noncomputable abbrev s_20:Stmt:=top 24
noncomputable abbrev s_19:Stmt:=top 23
noncomputable abbrev s_23:Stmt:=top 28
noncomputable abbrev s_9:Stmt:=top 11
noncomputable abbrev s_10:Stmt:=top 13
noncomputable abbrev s_15:Stmt:=top 18
noncomputable abbrev s_16:Stmt:=top 19
noncomputable abbrev s_12:Stmt:=top 15
noncomputable abbrev s_22:Stmt:=top 27
noncomputable abbrev s_24:Stmt:=top 29
noncomputable abbrev s_35:Stmt:=top 41
noncomputable abbrev s_27:Stmt:=top 32
noncomputable abbrev s_25:Stmt:=top 30
noncomputable abbrev s_26:Stmt:=top 31
noncomputable abbrev s_36:Stmt:=top 42
noncomputable abbrev s_37:Stmt:=top 43
noncomputable abbrev s_38:Stmt:=top 44
structure Ad where
 a_0:Addr
 a_1:Addr
 a_2:Addr
 a_3:Addr
 a_4:Addr
 a_5:Addr
 a_6:Addr
 a_7:Addr
 a_31:Addr
 d_31:FuncData
 a_32:Addr
 d_32:FuncData
 a_33:Addr
 d_33:FuncData
 a_28:Addr
 d_28:FuncData
 a_29:Addr
 d_29:FuncData
 a_30:Addr
 d_30:FuncData
 a_34:Addr
 d_34:FuncData
 a_8:Addr
 d_8:FuncData
 a_14:Addr
 d_14:FuncData
 a_17:Addr
 d_17:FuncData
 a_18:Addr
 d_18:FuncData
 a_11:Addr
 d_11:FuncData
 a_13:Addr
 d_13:FuncData
 a_21:Addr
 d_21:FuncData
 a_20:Addr
 d_20:FuncData
 a_19:Addr
 d_19:FuncData
 a_23:Addr
 d_23:FuncData
 a_9:Addr
 d_9:FuncData
 a_10:Addr
 d_10:FuncData
 a_15:Addr
 d_15:FuncData
 a_16:Addr
 d_16:FuncData
 a_12:Addr
 d_12:FuncData
 a_22:Addr
 d_22:FuncData
 a_24:Addr
 d_24:FuncData
 a_35:Addr
 d_35:FuncData
 a_27:Addr
 d_27:FuncData
 a_25:Addr
 d_25:FuncData
 a_26:Addr
 d_26:FuncData
 a_36:Addr
 d_36:FuncData
 a_37:Addr
 d_37:FuncData
 a_38:Addr
 d_38:FuncData
structure Tx (K:W.Frag) (mg:Str->Option Value) (t:Ad):Prop where
 n_all:mg "all"=none
 n_any:mg "any"=none
 n_bool:mg "bool"=none
 n_divmod:mg "divmod"=none
 n_int:mg "int"=none
 n_isinstance:mg "isinstance"=none
 n_len:mg "len"=none
 n_list:mg "list"=none
 n_max:mg "max"=none
 n_min:mg "min"=none
 n_range:mg "range"=none
 n_set:mg "set"=none
 n_sorted:mg "sorted"=none
 n_sum:mg "sum"=none
 n_tuple:mg "tuple"=none
 g_0:mg "CoverError"=some (.ref t.a_0)
 g_1:mg "NoStock"=some (.ref t.a_1)
 g_2:mg "NoOffer"=some (.ref t.a_2)
 g_3:mg "NoThing"=some (.ref t.a_3)
 g_4:mg "NoCover"=some (.ref t.a_4)
 g_5:mg "NoNumber"=some (.ref t.a_5)
 g_6:mg "NotFull"=some (.ref t.a_6)
 g_7:mg "NoRow"=some (.ref t.a_7)
 k_1:zca K "NoStock" t.a_1
 k_2:zca K "NoOffer" t.a_2
 k_3:zca K "NoThing" t.a_3
 k_4:zca K "NoCover" t.a_4
 k_5:zca K "NoNumber" t.a_5
 k_6:zca K "NotFull" t.a_6
 k_7:zca K "NoRow" t.a_7
 x_exc:znA K t.a_0 zdd
 m_31:mg "_law_take"=some (.ref t.a_31)
 F_31:Fun K "_law_take" "_law_take" s_31 t.a_31 t.d_31
 b_31:zaF K t.d_31 ["box","many"] []
 m_32:mg "_law_stock"=some (.ref t.a_32)
 F_32:Fun K "_law_stock" "_law_stock" s_32 t.a_32 t.d_32
 b_32:zaF K t.d_32 ["box","most_things","most_offers"] []
 m_33:mg "_law_full"=some (.ref t.a_33)
 F_33:Fun K "_law_full" "_law_full" s_33 t.a_33 t.d_33
 b_33:zaF K t.d_33 ["box","most_things","most_offers"] []
 m_28:mg "_law_cell"=some (.ref t.a_28)
 F_28:Fun K "_law_cell" "_law_cell" s_28 t.a_28 t.d_28
 b_28:zaF K t.d_28 ["script","k"] []
 m_29:mg "_law_mix"=some (.ref t.a_29)
 F_29:Fun K "_law_mix" "_law_mix" s_29 t.a_29 t.d_29
 b_29:zaF K t.d_29 ["cell","k"] []
 m_30:mg "_law_box"=some (.ref t.a_30)
 F_30:Fun K "_law_box" "_law_box" s_30 t.a_30 t.d_30
 b_30:zaF K t.d_30 ["script","k"] []
 m_34:mg "_law_covers"=some (.ref t.a_34)
 F_34:Fun K "_law_covers" "_law_covers" s_34 t.a_34 t.d_34
 b_34:zaF K t.d_34 ["stock"] []
 m_8:mg "is_whole"=some (.ref t.a_8)
 F_8:Fun K "is_whole" "is_whole" s_8 t.a_8 t.d_8
 b_8:zaF K t.d_8 ["thing"] []
 m_14:mg "need_offer"=some (.ref t.a_14)
 F_14:Fun K "need_offer" "need_offer" s_14 t.a_14 t.d_14
 b_14:zaF K t.d_14 ["stock","offer"] []
 m_17:mg "things_together"=some (.ref t.a_17)
 F_17:Fun K "things_together" "things_together" s_17 t.a_17 t.d_17
 b_17:zaF K t.d_17 ["offers"] []
 m_18:mg "have_all"=some (.ref t.a_18)
 F_18:Fun K "have_all" "have_all" s_18 t.a_18 t.d_18
 b_18:zaF K t.d_18 ["stock","offers"] []
 m_11:mg "is_full"=some (.ref t.a_11)
 F_11:Fun K "is_full" "is_full" s_11 t.a_11 t.d_11
 b_11:zaF K t.d_11 ["stock"] []
 m_13:mg "need_full"=some (.ref t.a_13)
 F_13:Fun K "need_full" "need_full" s_13 t.a_13 t.d_13
 b_13:zaF K t.d_13 ["stock"] []
 m_21:mg "bits_of"=some (.ref t.a_21)
 F_21:Fun K "bits_of" "bits_of" s_21 t.a_21 t.d_21
 b_21:zaF K t.d_21 ["many","things"] []
 m_20:mg "known_lots"=some (.ref t.a_20)
 F_20:Fun K "known_lots" "known_lots" s_20 t.a_20 t.d_20
 b_20:zaF K t.d_20 ["stock"] []
 m_19:mg "priced_covers"=some (.ref t.a_19)
 F_19:Fun K "priced_covers" "priced_covers" s_19 t.a_19 t.d_19
 b_19:zaF K t.d_19 ["stock"] []
 m_23:mg "cheapest_without"=some (.ref t.a_23)
 F_23:Fun K "cheapest_without" "cheapest_without" s_23 t.a_23 t.d_23
 b_23:zaF K t.d_23 ["stock","offer"] []
 m_9:mg "is_rising"=some (.ref t.a_9)
 F_9:Fun K "is_rising" "is_rising" s_9 t.a_9 t.d_9
 b_9:zaF K t.d_9 ["thing","bound"] []
 m_10:mg "is_lot"=some (.ref t.a_10)
 F_10:Fun K "is_lot" "is_lot" s_10 t.a_10 t.d_10
 b_10:zaF K t.d_10 ["stock","thing"] []
 m_15:mg "need_lot"=some (.ref t.a_15)
 F_15:Fun K "need_lot" "need_lot" s_15 t.a_15 t.d_15
 b_15:zaF K t.d_15 ["stock","lot"] []
 m_16:mg "offers_of"=some (.ref t.a_16)
 F_16:Fun K "offers_of" "offers_of" s_16 t.a_16 t.d_16
 b_16:zaF K t.d_16 ["stock","lot"] []
 m_12:mg "price_of"=some (.ref t.a_12)
 F_12:Fun K "price_of" "price_of" s_12 t.a_12 t.d_12
 b_12:zaF K t.d_12 ["stock","lot"] []
 m_22:mg "cheapest_with"=some (.ref t.a_22)
 F_22:Fun K "cheapest_with" "cheapest_with" s_22 t.a_22 t.d_22
 b_22:zaF K t.d_22 ["stock","offer"] []
 m_24:mg "reach_of"=some (.ref t.a_24)
 F_24:Fun K "reach_of" "reach_of" s_24 t.a_24 t.d_24
 b_24:zaF K t.d_24 ["stock","offer"] []
 m_35:mg "_law_whole"=some (.ref t.a_35)
 F_35:Fun K "_law_whole" "_law_whole" s_35 t.a_35 t.d_35
 b_35:zaF K t.d_35 ["found"] []
 m_27:mg "cheapest_covers"=some (.ref t.a_27)
 F_27:Fun K "cheapest_covers" "cheapest_covers" s_27 t.a_27 t.d_27
 b_27:zaF K t.d_27 ["stock"] []
 m_25:mg "in_some"=some (.ref t.a_25)
 F_25:Fun K "in_some" "in_some" s_25 t.a_25 t.d_25
 b_25:zaF K t.d_25 ["stock"] []
 m_26:mg "in_all"=some (.ref t.a_26)
 F_26:Fun K "in_all" "in_all" s_26 t.a_26 t.d_26
 b_26:zaF K t.d_26 ["stock"] []
 m_36:mg "_law_kind"=some (.ref t.a_36)
 F_36:Fun K "_law_kind" "_law_kind" s_36 t.a_36 t.d_36
 b_36:zaF K t.d_36 ["e"] []
 m_37:mg "_law_said"=some (.ref t.a_37)
 F_37:Fun K "_law_said" "_law_said" s_37 t.a_37 t.d_37
 b_37:zaF K t.d_37 ["stock","offer"] []
 m_38:mg "law"=some (.ref t.a_38)
 F_38:Fun K "law" "law" s_38 t.a_38 t.d_38
 b_38:zaF K t.d_38 ["script"] []
section
variable {P:Program} {w:World} {K:W.Frag} {mg:Str->Option Value} {base:Heap} {t:Ad}
theorem nd_31:(["box","many","left","digit"]:List Str).Nodup:=by decide +kernel
theorem sc_31:zas ["box","many","left","digit"] ["box","many"] (zae s_31):=⟨rfl,rfl,rfl,by decide +kernel,rfl,by decide +kernel,by decide +kernel⟩
theorem ok_31 (T:Tx K mg t):zbG P w K mg base CX0 1 t.a_31 t.d_31 ["box","many"] (zcn K 2 F_31):=by
 refine zb0 (k:=0) (G:=G_31) (N:=["box","many","left","digit"]) (ps:=["box","many"]) (st:=s_31) T.F_31 sc_31 fun cdv A outer s H E hr=> ?_
 refine zaf ?_ ?_
 refine znj ?_ ?_
 refine zaA (id:="divmod") zgQ zlk T.n_divmod ?_
 refine zaa ?_ ?_
 exact zbv (zab 0) zai
 exact zaa (zab 1) zad
 refine zgT rfl ?_
 refine zbH (zan 2 nd_31) ?_
 exact zbH (zan 3 nd_31) zfl
 refine zaf ?_ ?_
 refine znj (zab 2) ?_
 exact zr3 (zab 0) zai
 refine zak ?_
 exact zaZ (zab 3)
theorem nd_32:(["box","most_things","most_offers","many","kind","full","offers","turn","things"]:List Str).Nodup:=by decide +kernel
theorem zrx:(["thing","box","full"]:List Str).Nodup:=by decide +kernel
theorem sc_32:zas ["box","most_things","most_offers","many","kind","full","offers","turn","things"] ["box","most_things","most_offers"] (zae s_32):=⟨rfl,rfl,rfl,by decide +kernel,rfl,by decide +kernel,by decide +kernel⟩
theorem ok_32 (T:Tx K mg t):zbG P w K mg base CX0 2 t.a_32 t.d_32 ["box","most_things","most_offers"] (zcn K 3 F_32):=by
 have G_31:=ok_31 (P:=P) (w:=w) (base:=base) T
 refine zb0 (k:=1) (G:=G_32) (N:=["box","most_things","most_offers","many","kind","full","offers","turn","things"]) (ps:=["box","most_things","most_offers"]) (st:=s_32) T.F_32 sc_32 fun cdv A outer s H E hr=> ?_
 refine zaf ?_ ?_
 refine zaM 3 nd_32 ?_
 refine zb7 (zaO) zai ?_
 refine zaI (k:=1) (g:=t.a_31) (fd:=t.d_31) (ps:=["box","many"]) G_31 (hr.mono (by decide)) T.m_31 T.F_31.kp T.b_31 ?_
 refine zaa (zab 0) ?_
 exact zaa (zab 1) zad
 refine zaf ?_ ?_
 refine zaM 4 nd_32 ?_
 refine zbv ?_ ?_
 refine zeN ?_
 refine zaa zai ?_
 refine zaa zai ?_
 refine zaa zai ?_
 refine zaa ?_ zad
 exact zb7 (zp9) zai zai
 refine zaI (k:=1) (g:=t.a_31) (fd:=t.d_31) (ps:=["box","many"]) G_31 (hr.mono (by decide)) T.m_31 T.F_31.kp T.b_31 ?_
 refine zaa (zab 0) ?_
 exact zaa zai zad
 refine zaf ?_ ?_
 refine zaM 5 nd_32 ?_
 refine zaI (k:=1) (g:=t.a_31) (fd:=t.d_31) (ps:=["box","many"]) G_31 (hr.mono (by decide)) T.m_31 T.F_31.kp T.b_31 ?_
 refine zaa (zab 0) ?_
 exact zaa zai zad
 refine zaf ?_ ?_
 refine zaM 6 nd_32 ?_
 exact zgS zad
 refine zaf ?_ ?_
 refine zeg rfl PassesOwn.never ?_ (zan 7 nd_32) ?_
 refine zdm T.n_range ?_
 refine zaa ?_ zad
 refine zaI (k:=1) (g:=t.a_31) (fd:=t.d_31) (ps:=["box","many"]) G_31 (hr.mono (by decide)) T.m_31 T.F_31.kp T.b_31 ?_
 refine zaa (zab 0) ?_
 refine zaa ?_ zad
 exact zb7 (zaO) (zab 2) zai
 refine zaf ?_ ?_
 refine zbR 8 (N:=["thing","box","full"]) rfl nd_32 ?_ (zax.name (i:=0) rfl) ?_ ?_ ?_ ?_
 exact (BOk.of (Xn:=(zae s_32).names) (XN:=["box","most_things","most_offers","many","kind","full","offers","turn","things"]) rfl rfl rfl (by decide +kernel))
 refine zdm T.n_range ?_
 exact zaa (zab 3) zad
 intro _ _ _
 exact zan 0 zrx
 intro _ _ _
 refine zbL ?_
 refine zaH (zsF) ?_ (zab 2)
 refine zaI (k:=1) (g:=t.a_31) (fd:=t.d_31) (ps:=["box","many"]) G_31 (hr.mono (by decide)) T.m_31 T.F_31.kp T.b_31 ?_
 refine zaa (zab 1) ?_
 exact zaa zai zad
 intro _ _ _
 exact zab 0
 refine zaf ?_ ?_
 refine zgD ?_ ?_ zbJ
 refine zaH (zd8 (zdo hr)) (zab 8) ?_
 exact zeN zad
 refine zak ?_
 refine zaM 8 nd_32 ?_
 refine zeN ?_
 refine zaa ?_ zad
 refine zaI (k:=1) (g:=t.a_31) (fd:=t.d_31) (ps:=["box","many"]) G_31 (hr.mono (by decide)) T.m_31 T.F_31.kp T.b_31 ?_
 refine zaa (zab 0) ?_
 exact zaa (zab 3) zad
 refine zak ?_
 refine zcD ?_
 refine zeh (zab 6) ?_
 refine zcl ?_
 refine zaa ?_ ?_
 refine zdD (T:="tuple") zbS zcU T.n_tuple ?_
 exact zaa (zab 8) zad
 refine zaa ?_ zad
 refine zb7 (zaO) zai ?_
 refine zaI (k:=1) (g:=t.a_31) (fd:=t.d_31) (ps:=["box","many"]) G_31 (hr.mono (by decide)) T.m_31 T.F_31.kp T.b_31 ?_
 refine zaa (zab 0) ?_
 exact zaa (zab 4) zad
 refine zak ?_
 refine zaZ ?_
 refine zcl ?_
 refine zaa (zab 3) ?_
 refine zaa ?_ zad
 refine zdD (T:="tuple") zbS zcU T.n_tuple ?_
 exact zaa (zab 6) zad
theorem nd_33:(["box","most_things","most_offers","many","offers","left","at"]:List Str).Nodup:=by decide +kernel
theorem zta:(["thing","offers"]:List Str).Nodup:=by decide +kernel
theorem zrY:(["one","thing"]:List Str).Nodup:=by decide +kernel
theorem sc_33:zas ["box","most_things","most_offers","many","offers","left","at"] ["box","most_things","most_offers"] (zae s_33):=⟨rfl,rfl,rfl,by decide +kernel,rfl,by decide +kernel,by decide +kernel⟩
theorem ok_33 (T:Tx K mg t):zbG P w K mg base CX0 3 t.a_33 t.d_33 ["box","most_things","most_offers"] (zcn K 3 F_33):=by
 have G_32:=ok_32 (P:=P) (w:=w) (base:=base) T
 have G_31:=ok_31 (P:=P) (w:=w) (base:=base) T
 refine zb0 (k:=2) (G:=G_33) (N:=["box","most_things","most_offers","many","offers","left","at"]) (ps:=["box","most_things","most_offers"]) (st:=s_33) T.F_33 sc_33 fun cdv A outer s H E hr=> ?_
 refine zaf ?_ ?_
 refine znj ?_ ?_
 refine zaI (k:=2) (g:=t.a_32) (fd:=t.d_32) (ps:=["box","most_things","most_offers"]) G_32 (hr.mono (by decide)) T.m_32 T.F_32.kp T.b_32 ?_
 refine zaa (zab 0) ?_
 refine zaa (zab 1) ?_
 refine zaa ?_ zad
 exact zb7 (zdI) (zab 2) zai
 refine zgT rfl ?_
 refine zbH (zan 3 nd_33) ?_
 exact zbH (zan 4 nd_33) zfl
 refine zaf ?_ ?_
 refine zaM 5 nd_33 ?_
 refine zdD (T:="tuple") zbS zcU T.n_tuple ?_
 refine zaa ?_ zad
 refine zb1 (N:=["thing","offers"]) rfl ?_ (zax.name (i:=0) rfl) ?_ ?_ ?_ ?_
 exact (BOk.of (Xn:=(zae s_33).names) (XN:=["box","most_things","most_offers","many","offers","left","at"]) rfl rfl rfl (by decide +kernel))
 refine zdm T.n_range ?_
 exact zaa (zab 3) zad
 intro _ _ _
 exact zan 0 zta
 intro _ _ _
 refine zbL ?_
 refine zaH (zd8 (zdo hr)) ?_ ?_
 refine zb1 (N:=["one","thing"]) rfl ?_ (zax.name (i:=0) rfl) ?_ ?_ ?_ ?_
 exact (BOk.of (N:=["one","thing"]) (src:=[none,some 0]) rfl rfl rfl (by rfl))
 exact zcs (zab 1)
 intro _ _ _
 exact zan 0 zrY
 intro _ _ _
 refine zbL ?_
 refine zaH (zfb (zdo hr)) (zab 1) ?_
 exact zbv (zab 0) zai
 intro _ _ _
 exact zab 0
 exact zeN zad
 intro _ _ _
 exact zab 0
 refine zaf ?_ ?_
 refine zaM 6 nd_33 ?_
 refine zaI (k:=1) (g:=t.a_31) (fd:=t.d_31) (ps:=["box","many"]) G_31 (hr.mono (by decide)) T.m_31 T.F_31.kp T.b_31 ?_
 refine zaa (zab 0) ?_
 refine zaa ?_ zad
 refine zb7 (zaO) ?_ zai
 refine zaA (id:="len") zaN zbX T.n_len ?_
 exact zaa (zab 4) zad
 refine zaf ?_ ?_
 refine zgD ?_ ?_ zbJ
 refine zaH (zrD (zdo hr)) (zab 5) ?_
 exact zcl zad
 refine zak ?_
 refine zaM 4 nd_33 ?_
 refine zb7 (zaO) ?_ ?_
 refine zb7 (zaO) ?_ ?_
 refine zez (zab 4) (zga) ?_
 exact zgu (zab 6)
 refine zcl ?_
 refine zaa ?_ zad
 refine zcl ?_
 refine zaa (zab 5) ?_
 refine zaa ?_ zad
 refine zb7 (zaO) zai ?_
 refine zaI (k:=1) (g:=t.a_31) (fd:=t.d_31) (ps:=["box","many"]) G_31 (hr.mono (by decide)) T.m_31 T.F_31.kp T.b_31 ?_
 refine zaa (zab 0) ?_
 exact zaa zai zad
 refine zez (zab 4) ?_ (zga)
 exact zgu (zab 6)
 refine zak ?_
 refine zaZ ?_
 refine zcl ?_
 refine zaa (zab 3) ?_
 exact zaa (zab 4) zad
theorem sc_28:zas ["script","k"] ["script","k"] (zae s_28):=⟨rfl,rfl,rfl,by decide +kernel,rfl,by decide +kernel,by decide +kernel⟩
theorem ok_28 (T:Tx K mg t):zbG P w K mg base CX0 1 t.a_28 t.d_28 ["script","k"] (zcn K 2 F_28):=by
 refine zb0 (k:=0) (G:=G_28) (N:=["script","k"]) (ps:=["script","k"]) (st:=s_28) T.F_28 sc_28 fun cdv A outer s H E hr=> ?_
 refine zaf ?_ ?_
 refine zgD ?_ ?_ zbJ
 refine zaH (zku) (zab 1) ?_
 refine zaA (id:="len") zaN zbX T.n_len ?_
 exact zaa (zab 0) zad
 refine zak ?_
 refine zaZ ?_
 exact zbv (zab 0) (zab 1)
 refine zak ?_
 refine zaZ ?_
 refine zb7 (zaO) ?_ zai
 exact zb7 (zme) zai (zab 1)
theorem nd_29:(["cell","k","number"]:List Str).Nodup:=by decide +kernel
theorem sc_29:zas ["cell","k","number"] ["cell","k"] (zae s_29):=⟨rfl,rfl,rfl,by decide +kernel,rfl,by decide +kernel,by decide +kernel⟩
theorem ok_29 (T:Tx K mg t):zbG P w K mg base CX0 1 t.a_29 t.d_29 ["cell","k"] (zcn K 2 F_29):=by
 refine zb0 (k:=0) (G:=G_29) (N:=["cell","k","number"]) (ps:=["cell","k"]) (st:=s_29) T.F_29 sc_29 fun cdv A outer s H E hr=> ?_
 refine zaf ?_ ?_
 refine zaM 2 nd_29 ?_
 refine zb7 (zaO) ?_ ?_
 refine zb7 (ze2) ?_ zai
 exact zb7 (zaO) (zab 0) zai
 exact zb7 (ze2) zai (zab 1)
 refine zaf ?_ ?_
 refine zaM 2 nd_29 ?_
 refine zb7 (zaO) ?_ (zab 1)
 refine zb7 (zgh) ?_ zai
 exact zb7 (ze2) (zab 2) (zab 2)
 refine zak ?_
 refine zaZ ?_
 refine zb7 (zgh) ?_ zai
 refine zb7 (ze2) (zab 2) ?_
 exact zb7 (zaO) (zab 2) zai
theorem nd_30:(["script","k","here","number","j"]:List Str).Nodup:=by decide +kernel
theorem sc_30:zas ["script","k","here","number","j"] ["script","k"] (zae s_30):=⟨rfl,rfl,rfl,by decide +kernel,rfl,by decide +kernel,by decide +kernel⟩
theorem ok_30 (T:Tx K mg t):zbG P w K mg base CX0 2 t.a_30 t.d_30 ["script","k"] (zcn K 2 F_30):=by
 have G_28:=ok_28 (P:=P) (w:=w) (base:=base) T
 have G_29:=ok_29 (P:=P) (w:=w) (base:=base) T
 refine zb0 (k:=1) (G:=G_30) (N:=["script","k","here","number","j"]) (ps:=["script","k"]) (st:=s_30) T.F_30 sc_30 fun cdv A outer s H E hr=> ?_
 refine zaf ?_ ?_
 refine zaM 2 nd_30 ?_
 refine zaI (k:=1) (g:=t.a_28) (fd:=t.d_28) (ps:=["script","k"]) G_28 (hr.mono (by decide)) T.m_28 T.F_28.kp T.b_28 ?_
 refine zaa (zab 0) ?_
 exact zaa (zab 1) zad
 refine zaf ?_ ?_
 refine zgD ?_ ?_ zbJ
 refine zaH (zd8 (zdo hr)) ?_ zai
 exact zb7 (zgh) (zab 2) zai
 refine zak ?_
 refine zaZ ?_
 refine zgS ?_
 refine zaa ?_ zad
 exact zb7 (znW) (zab 2) zai
 refine zaf ?_ ?_
 exact zaM 3 nd_30 zai
 refine zaf ?_ ?_
 refine zeg rfl PassesOwn.never ?_ (zan 4 nd_30) ?_
 refine zdm T.n_range ?_
 exact zaa zai zad
 refine zak ?_
 refine zaM 3 nd_30 ?_
 refine zb7 (zaO) ?_ ?_
 exact zb7 (ze2) (zab 3) zai
 refine zaI (k:=1) (g:=t.a_29) (fd:=t.d_29) (ps:=["cell","k"]) G_29 (hr.mono (by decide)) T.m_29 T.F_29.kp T.b_29 ?_
 refine zaa (zab 2) ?_
 exact zaa (zab 4) zad
 refine zak ?_
 refine zaZ ?_
 refine zgS ?_
 exact zaa (zab 3) zad
theorem nd_34:(["stock","found","bits","lot","had","paid","offer","thing"]:List Str).Nodup:=by decide +kernel
theorem zts:(["offer","bits"]:List Str).Nodup:=by decide +kernel
theorem sc_34:zas ["stock","found","bits","lot","had","paid","offer","thing"] ["stock"] (zae s_34):=⟨rfl,rfl,rfl,by decide +kernel,rfl,by decide +kernel,by decide +kernel⟩
theorem ok_34 (T:Tx K mg t):zbG P w K mg base CX0 1 t.a_34 t.d_34 ["stock"] (zcn K 1 F_34):=by
 refine zb0 (k:=0) (G:=G_34) (N:=["stock","found","bits","lot","had","paid","offer","thing"]) (ps:=["stock"]) (st:=s_34) T.F_34 sc_34 fun cdv A outer s H E hr=> ?_
 refine zaf ?_ ?_
 refine zaM 1 nd_34 ?_
 exact zgS zad
 refine zaf ?_ ?_
 refine zeg rfl PassesOwn.never ?_ (zan 2 nd_34) ?_
 refine zdm T.n_range ?_
 refine zaa ?_ zad
 refine zb7 (zpc) zai ?_
 refine zaA (id:="len") zaN zbX T.n_len ?_
 refine zaa ?_ zad
 exact zbv (zab 0) zai
 refine zaf ?_ ?_
 refine zaM 3 nd_34 ?_
 refine zdD (T:="tuple") zbS zcU T.n_tuple ?_
 refine zaa ?_ zad
 refine zb1 (N:=["offer","bits"]) rfl ?_ (zax.name (i:=0) rfl) ?_ ?_ ?_ ?_
 exact (BOk.of (Xn:=(zae s_34).names) (XN:=["stock","found","bits","lot","had","paid","offer","thing"]) rfl rfl rfl (by decide +kernel))
 refine zdm T.n_range ?_
 refine zaa ?_ zad
 refine zaA (id:="len") zaN zbX T.n_len ?_
 refine zaa ?_ zad
 exact zbv (zab 0) zai
 intro _ _ _
 exact zan 0 zts
 intro _ _ _
 refine zbL ?_
 refine zaH (zd8 (zdo hr)) ?_ zai
 refine zb7 (zgh) ?_ zai
 exact zb7 (zo1) (zab 1) (zab 0)
 intro _ _ _
 exact zab 0
 refine zaf ?_ ?_
 refine zaM 4 nd_34 ?_
 exact zvb
 refine zaf ?_ ?_
 exact zaM 5 nd_34 zai
 refine zaf ?_ ?_
 refine zeg rfl PassesOwn.never ?_ (zan 6 nd_34) ?_
 exact zcs (zab 3)
 refine zaf ?_ ?_
 refine zaM 5 nd_34 ?_
 refine zb7 (zaO) (zab 5) ?_
 refine zbv ?_ zai
 refine zbv ?_ (zab 6)
 exact zbv (zab 0) zai
 refine zak ?_
 refine zeg rfl PassesOwn.never ?_ (zan 7 nd_34) ?_
 refine zcs ?_
 refine zbv ?_ zai
 refine zbv ?_ (zab 6)
 exact zbv (zab 0) zai
 refine zak ?_
 refine znj zmb ?_
 exact zrs (zab 4) (zab 7)
 refine zak ?_
 refine zgD ?_ ?_ zbJ
 refine zaH (zd8 (zdo hr)) ?_ ?_
 refine zaA (id:="len") zjA zbX T.n_len ?_
 exact zaa (zab 4) zad
 exact zbv (zab 0) zai
 refine zak ?_
 refine zcD ?_
 refine zeh (zab 1) ?_
 refine zcl ?_
 refine zaa (zab 5) ?_
 exact zaa (zab 3) zad
 refine zak ?_
 refine zaZ ?_
 refine zaA (id:="sorted") ?_ zli T.n_sorted ?_
 exact (zhO (zdo hr))
 exact zaa (zab 1) zad
theorem sc_8:zas ["thing"] ["thing"] (zae s_8):=⟨rfl,rfl,rfl,by decide +kernel,rfl,by decide +kernel,by decide +kernel⟩
theorem ok_8 (T:Tx K mg t):zbG P w K mg base CX0 1 t.a_8 t.d_8 ["thing"] (zcn K 1 F_8):=by
 refine zb0 (k:=0) (G:=G_8) (N:=["thing"]) (ps:=["thing"]) (st:=s_8) T.F_8 sc_8 fun cdv A outer s H E hr=> ?_
 refine zak ?_
 refine zaZ ?_
 refine zp5 ?_ ?_
 refine zhI ?_ zoJ T.n_isinstance T.n_int (zab 0)
 exact zl5
 refine zpy ?_
 refine zrP ?_
 refine zhI ?_ zkl T.n_isinstance T.n_bool (zab 0)
 exact ziT
theorem sc_14:zas ["stock","offer"] ["stock","offer"] (zae s_14):=⟨rfl,rfl,rfl,by decide +kernel,rfl,by decide +kernel,by decide +kernel⟩
theorem ok_14 (T:Tx K mg t):zbG P w K mg base (CXE P w) 2 t.a_14 t.d_14 ["stock","offer"] (spE K 2 F_14):=by
 have G_8:=ok_8 (P:=P) (w:=w) (base:=base) T
 refine zd4 (k:=1) (G:=G_14) (N:=["stock","offer"]) (ps:=["stock","offer"]) (st:=s_14) T.F_14 sc_14 fun cdv A outer s H E hr=> ?_
 refine zak ?_
 refine zgD ?_ ?_ zbJ
 refine zfg ?_
 refine zhJ ?_ ?_
 refine zea ?_
 refine zc8 ?_
 refine zfZ (k:=1) (g:=t.a_8) (fd:=t.d_8) (ps:=["thing"]) G_8 (hr.mono (by decide)) T.m_8 T.F_8.kp T.b_8 ?_
 exact zaa (zab 1) zad
 refine zhJ ?_ ?_
 exact zaH (zku) (zab 1) zai
 refine zgP ?_
 refine zaH (zoE) (zab 1) ?_
 refine zaA (id:="len") zaN zbX T.n_len ?_
 refine zaa ?_ zad
 exact zbv (zab 0) zai
 refine zak ?_
 exact zii (c:="NoOffer") rfl zfV T.x_exc (by decide +kernel) T.k_2
theorem nd_17:(["offers","things","offer"]:List Str).Nodup:=by decide +kernel
theorem sc_17:zas ["offers","things","offer"] ["offers"] (zae s_17):=⟨rfl,rfl,rfl,by decide +kernel,rfl,by decide +kernel,by decide +kernel⟩
theorem ok_17 (T:Tx K mg t):zbG P w K mg base CX0 1 t.a_17 t.d_17 ["offers"] (zcn K 1 F_17):=by
 refine zb0 (k:=0) (G:=G_17) (N:=["offers","things","offer"]) (ps:=["offers"]) (st:=s_17) T.F_17 sc_17 fun cdv A outer s H E hr=> ?_
 refine zaf ?_ ?_
 refine zaM 1 nd_17 ?_
 exact zgS zad
 refine zaf ?_ ?_
 refine zeg rfl PassesOwn.never ?_ (zan 2 nd_17) ?_
 exact zcs (zab 0)
 refine zak ?_
 refine zcD ?_
 refine zne (zab 1) ?_
 exact zbv (zab 2) zai
 refine zak ?_
 refine zaZ ?_
 refine zdD (T:="tuple") zbS zcU T.n_tuple ?_
 refine zaa ?_ zad
 exact zkz rfl T.n_sorted T.n_set (zab 1)
theorem sc_18:zas ["stock","offers"] ["stock","offers"] (zae s_18):=⟨rfl,rfl,rfl,by decide +kernel,rfl,by decide +kernel,by decide +kernel⟩
theorem ok_18 (T:Tx K mg t):zbG P w K mg base CX0 2 t.a_18 t.d_18 ["stock","offers"] (zcn K 2 F_18):=by
 have G_17:=ok_17 (P:=P) (w:=w) (base:=base) T
 refine zb0 (k:=1) (G:=G_18) (N:=["stock","offers"]) (ps:=["stock","offers"]) (st:=s_18) T.F_18 sc_18 fun cdv A outer s H E hr=> ?_
 refine zak ?_
 refine zaZ ?_
 refine zlH (zd8 (zdo hr)) ?_ ?_
 refine zaA (id:="len") zaN zbX T.n_len ?_
 refine zaa ?_ zad
 refine zaI (k:=1) (g:=t.a_17) (fd:=t.d_17) (ps:=["offers"]) G_17 (hr.mono (by decide)) T.m_17 T.F_17.kp T.b_17 ?_
 exact zaa (zab 1) zad
 exact zbv (zab 0) zai
theorem sc_11:zas ["stock"] ["stock"] (zae s_11):=⟨rfl,rfl,rfl,by decide +kernel,rfl,by decide +kernel,by decide +kernel⟩
theorem ok_11 (T:Tx K mg t):zbG P w K mg base CX0 3 t.a_11 t.d_11 ["stock"] (zcn K 1 F_11):=by
 have G_18:=ok_18 (P:=P) (w:=w) (base:=base) T
 refine zb0 (k:=2) (G:=G_11) (N:=["stock"]) (ps:=["stock"]) (st:=s_11) T.F_11 sc_11 fun cdv A outer s H E hr=> ?_
 refine zak ?_
 refine zaZ ?_
 refine zaI (k:=2) (g:=t.a_18) (fd:=t.d_18) (ps:=["stock","offers"]) G_18 (hr.mono (by decide)) T.m_18 T.F_18.kp T.b_18 ?_
 refine zaa (zab 0) ?_
 refine zaa ?_ zad
 exact zbv (zab 0) zai
theorem sc_13:zas ["stock"] ["stock"] (zae s_13):=⟨rfl,rfl,rfl,by decide +kernel,rfl,by decide +kernel,by decide +kernel⟩
theorem ok_13 (T:Tx K mg t):zbG P w K mg base (CXE P w) 4 t.a_13 t.d_13 ["stock"] (spE K 1 F_13):=by
 have G_11:=ok_11 (P:=P) (w:=w) (base:=base) T
 refine zd4 (k:=3) (G:=G_13) (N:=["stock"]) (ps:=["stock"]) (st:=s_13) T.F_13 sc_13 fun cdv A outer s H E hr=> ?_
 refine zak ?_
 refine zgD ?_ ?_ zbJ
 refine zea ?_
 refine zc8 ?_
 refine zfZ (k:=3) (g:=t.a_11) (fd:=t.d_11) (ps:=["stock"]) G_11 (hr.mono (by decide)) T.m_11 T.F_11.kp T.b_11 ?_
 exact zaa (zab 0) zad
 refine zak ?_
 exact zii (c:="NotFull") rfl zfV T.x_exc (by decide +kernel) T.k_6
theorem nd_21:(["many","things","bits","thing"]:List Str).Nodup:=by decide +kernel
theorem sc_21:zas ["many","things","bits","thing"] ["many","things"] (zae s_21):=⟨rfl,rfl,rfl,by decide +kernel,rfl,by decide +kernel,by decide +kernel⟩
theorem ok_21 (T:Tx K mg t):zbG P w K mg base CX0 1 t.a_21 t.d_21 ["many","things"] (zcn K 2 F_21):=by
 refine zb0 (k:=0) (G:=G_21) (N:=["many","things","bits","thing"]) (ps:=["many","things"]) (st:=s_21) T.F_21 sc_21 fun cdv A outer s H E hr=> ?_
 refine zaf ?_ ?_
 exact zaM 2 nd_21 zai
 refine zaf ?_ ?_
 refine zeg rfl PassesOwn.never ?_ (zan 3 nd_21) ?_
 refine zdm T.n_range ?_
 exact zaa (zab 0) zad
 refine zaf ?_ ?_
 refine zaM 2 nd_21 ?_
 exact zb7 (zme) (zab 2) zai
 refine zak ?_
 refine zgD ?_ ?_ zbJ
 exact zaH (zfb (zdo hr)) (zab 3) (zab 1)
 refine zak ?_
 refine zaM 2 nd_21 ?_
 exact zb7 (zaO) (zab 2) zai
 refine zak ?_
 exact zaZ (zab 2)
theorem nd_20:(["stock","lots","number","offer","bits","longer"]:List Str).Nodup:=by decide +kernel
theorem zua:(["known","offer","number","bits"]:List Str).Nodup:=by decide +kernel
theorem sc_20:zas ["stock","lots","number","offer","bits","longer"] ["stock"] (zae s_20):=⟨rfl,rfl,rfl,by decide +kernel,rfl,by decide +kernel,by decide +kernel⟩
theorem ok_20 (T:Tx K mg t):zbG P w K mg base CX0 2 t.a_20 t.d_20 ["stock"] (zcn K 1 F_20):=by
 have G_21:=ok_21 (P:=P) (w:=w) (base:=base) T
 refine zb0 (k:=1) (G:=G_20) (N:=["stock","lots","number","offer","bits","longer"]) (ps:=["stock"]) (st:=s_20) T.F_20 sc_20 fun cdv A outer s H E hr=> ?_
 refine zaf ?_ ?_
 refine zaM 1 nd_20 ?_
 refine zeN ?_
 refine zaa ?_ zad
 refine zcl ?_
 refine zaa zai ?_
 refine zaa ?_ ?_
 exact zcl zad
 exact zaa zai zad
 refine zaf ?_ ?_
 refine zeg rfl PassesOwn.never ?_ (zan 2 nd_20) ?_
 refine zrr T.n_range ?_
 refine zaa ?_ ?_
 refine zb7 (zdI) ?_ zai
 refine zaA (id:="len") zaN zbX T.n_len ?_
 refine zaa ?_ zad
 exact zbv (zab 0) zai
 refine zaa ?_ ?_
 exact zpm zai
 refine zaa ?_ zad
 exact zpm zai
 refine zaf ?_ ?_
 refine zaM 3 nd_20 ?_
 refine zbv ?_ (zab 2)
 exact zbv (zab 0) zai
 refine zaf ?_ ?_
 refine zaM 4 nd_20 ?_
 refine zaI (k:=1) (g:=t.a_21) (fd:=t.d_21) (ps:=["many","things"]) G_21 (hr.mono (by decide)) T.m_21 T.F_21.kp T.b_21 ?_
 refine zaa ?_ ?_
 exact zbv (zab 0) zai
 refine zaa ?_ zad
 exact zbv (zab 3) zai
 refine zaf ?_ ?_
 refine zbR 5 (N:=["known","offer","number","bits"]) rfl nd_20 ?_ (zax.name (i:=0) rfl) ?_ ?_ ?_ ?_
 exact (BOk.of (Xn:=(zae s_20).names) (XN:=["stock","lots","number","offer","bits","longer"]) rfl rfl rfl (by decide +kernel))
 exact zcs (zab 1)
 intro _ _ _
 exact zan 0 zua
 intro _ _ _
 exact zeS
 intro _ _ _
 refine zcl ?_
 refine zaa ?_ ?_
 refine zb7 (zaO) ?_ ?_
 exact zbv (zab 1) zai
 exact zbv (zab 0) zai
 refine zaa ?_ ?_
 refine zb7 (zaO) ?_ ?_
 refine zcl ?_
 exact zaa (zab 2) zad
 exact zbv (zab 0) zai
 refine zaa ?_ zad
 refine zb7 (zsl) (zab 3) ?_
 exact zbv (zab 0) zai
 refine zak ?_
 refine zaM 1 nd_20 ?_
 refine zb7 (zaO) ?_ ?_
 refine zb7 (zaO) ?_ (zab 5)
 refine zez (zab 1) (zga) ?_
 exact zgu zai
 refine zez (zab 1) ?_ (zga)
 exact zgu zai
 refine zak ?_
 exact zaZ (zab 1)
theorem nd_19:(["stock","every"]:List Str).Nodup:=by decide +kernel
theorem zuE:(["known","every"]:List Str).Nodup:=by decide +kernel
theorem sc_19:zas ["stock","every"] ["stock"] (zae s_19):=⟨rfl,rfl,rfl,by decide +kernel,rfl,by decide +kernel,by decide +kernel⟩
theorem ok_19 (T:Tx K mg t):zbG P w K mg base CX0 3 t.a_19 t.d_19 ["stock"] (zcn K 1 F_19):=by
 have G_21:=ok_21 (P:=P) (w:=w) (base:=base) T
 have G_20:=ok_20 (P:=P) (w:=w) (base:=base) T
 refine zb0 (k:=2) (G:=G_19) (N:=["stock","every"]) (ps:=["stock"]) (st:=s_19) T.F_19 sc_19 fun cdv A outer s H E hr=> ?_
 refine zaf ?_ ?_
 refine zaM 1 nd_19 ?_
 refine zaI (k:=1) (g:=t.a_21) (fd:=t.d_21) (ps:=["many","things"]) G_21 (hr.mono (by decide)) T.m_21 T.F_21.kp T.b_21 ?_
 refine zaa ?_ ?_
 exact zbv (zab 0) zai
 refine zaa ?_ zad
 refine zkF rfl T.n_list T.n_range ?_
 exact zbv (zab 0) zai
 refine zak ?_
 refine zaZ ?_
 refine zb1 (N:=["known","every"]) rfl ?_ (zax.name (i:=0) rfl) ?_ ?_ ?_ ?_
 exact (BOk.of (Xn:=(zae s_19).names) (XN:=["stock","every"]) rfl rfl rfl (by decide +kernel))
 refine zcs ?_
 refine zaI (k:=2) (g:=t.a_20) (fd:=t.d_20) (ps:=["stock"]) G_20 (hr.mono (by decide)) T.m_20 T.F_20.kp T.b_20 ?_
 exact zaa (zab 0) zad
 intro _ _ _
 exact zan 0 zuE
 intro _ _ _
 refine zbL ?_
 refine zaH (zd8 (zdo hr)) ?_ (zab 1)
 exact zbv (zab 0) zai
 intro _ _ _
 refine zcl ?_
 refine zaa ?_ ?_
 exact zbv (zab 0) zai
 refine zaa ?_ zad
 exact zbv (zab 0) zai
theorem nd_23:(["stock","offer","covers"]:List Str).Nodup:=by decide +kernel
theorem zu0:(["cover","offer"]:List Str).Nodup:=by decide +kernel
theorem sc_23:zas ["stock","offer","covers"] ["stock","offer"] (zae s_23):=⟨rfl,rfl,rfl,by decide +kernel,rfl,by decide +kernel,by decide +kernel⟩
theorem ok_23 (T:Tx K mg t):zbG P w K mg base (CXE P w) 5 t.a_23 t.d_23 ["stock","offer"] (spE K 2 F_23):=by
 have G_14:=ok_14 (P:=P) (w:=w) (base:=base) T
 have G_13:=ok_13 (P:=P) (w:=w) (base:=base) T
 have G_19:=ok_19 (P:=P) (w:=w) (base:=base) T
 refine zd4 (k:=4) (G:=G_23) (N:=["stock","offer","covers"]) (ps:=["stock","offer"]) (st:=s_23) T.F_23 sc_23 fun cdv A outer s H E hr=> ?_
 refine zaf ?_ ?_
 refine zcD ?_
 refine zbq (k:=2) (g:=t.a_14) (fd:=t.d_14) (ps:=["stock","offer"]) G_14 (zcc) (hr.mono (by decide)) T.m_14 T.F_14.kp T.b_14 ?_
 refine zaa (zab 0) ?_
 exact zaa (zab 1) zad
 refine zaf ?_ ?_
 refine zcD ?_
 refine zbq (k:=4) (g:=t.a_13) (fd:=t.d_13) (ps:=["stock"]) G_13 (zcc) (hr.mono (by decide)) T.m_13 T.F_13.kp T.b_13 ?_
 exact zaa (zab 0) zad
 refine zaf ?_ ?_
 refine ztn ?_
 refine zbR 2 (N:=["cover","offer"]) rfl nd_23 ?_ (zax.name (i:=0) rfl) ?_ ?_ ?_ ?_
 exact (BOk.of (Xn:=(zae s_23).names) (XN:=["stock","offer","covers"]) rfl rfl rfl (by decide +kernel))
 refine zcs ?_
 refine zaI (k:=3) (g:=t.a_19) (fd:=t.d_19) (ps:=["stock"]) G_19 (hr.mono (by decide)) T.m_19 T.F_19.kp T.b_19 ?_
 exact zaa (zab 0) zad
 intro _ _ _
 exact zan 0 zu0
 intro _ _ _
 refine zbL ?_
 refine zaH (zhl (zdo hr)) (zab 1) ?_
 exact zbv (zab 0) zai
 intro _ _ _
 exact zab 0
 refine zak ?_
 refine zaZ ?_
 refine zu9 ?_ ?_ zjX
 exact zsf (zab 2)
 refine zbv ?_ zai
 refine zaA (id:="min") ?_ zi0 T.n_min ?_
 exact (zdP (zdo hr))
 exact zaa (zab 2) zad
theorem nd_9:(["thing","bound","least","number"]:List Str).Nodup:=by decide +kernel
theorem sc_9:zas ["thing","bound","least","number"] ["thing","bound"] (zae s_9):=⟨rfl,rfl,rfl,by decide +kernel,rfl,by decide +kernel,by decide +kernel⟩
theorem ok_9 (T:Tx K mg t):zbG P w K mg base CX0 2 t.a_9 t.d_9 ["thing","bound"] (zcn K 2 F_9):=by
 have G_8:=ok_8 (P:=P) (w:=w) (base:=base) T
 refine zb0 (k:=1) (G:=G_9) (N:=["thing","bound","least","number"]) (ps:=["thing","bound"]) (st:=s_9) T.F_9 sc_9 fun cdv A outer s H E hr=> ?_
 refine zaf ?_ ?_
 refine zgD ?_ ?_ zbJ
 refine zea ?_
 refine zc8 ?_
 refine zhI ?_ zcU T.n_isinstance T.n_tuple (zab 0)
 exact zk3
 refine zak ?_
 exact zaZ zmb
 refine zaf ?_ ?_
 exact zaM 2 nd_9 zai
 refine zaf ?_ ?_
 refine zeg rfl PassesOwn.never ?_ (zan 3 nd_9) ?_
 exact zcs (zab 0)
 refine zaf ?_ ?_
 refine zgD ?_ ?_ zbJ
 refine zfg ?_
 refine zhJ ?_ ?_
 refine zea ?_
 refine zc8 ?_
 refine zaI (k:=1) (g:=t.a_8) (fd:=t.d_8) (ps:=["thing"]) G_8 (hr.mono (by decide)) T.m_8 T.F_8.kp T.b_8 ?_
 exact zaa (zab 3) zad
 refine zhJ ?_ ?_
 exact zaH (zku) (zab 3) (zab 2)
 refine zgP ?_
 exact zaH (zoE) (zab 3) (zab 1)
 refine zak ?_
 exact zaZ zmb
 refine zak ?_
 refine zaM 2 nd_9 ?_
 exact zb7 (zaO) (zab 3) zai
 refine zak ?_
 exact zaZ zmb
theorem sc_10:zas ["stock","thing"] ["stock","thing"] (zae s_10):=⟨rfl,rfl,rfl,by decide +kernel,rfl,by decide +kernel,by decide +kernel⟩
theorem ok_10 (T:Tx K mg t):zbG P w K mg base CX0 3 t.a_10 t.d_10 ["stock","thing"] (zcn K 2 F_10):=by
 have G_9:=ok_9 (P:=P) (w:=w) (base:=base) T
 refine zb0 (k:=2) (G:=G_10) (N:=["stock","thing"]) (ps:=["stock","thing"]) (st:=s_10) T.F_10 sc_10 fun cdv A outer s H E hr=> ?_
 refine zak ?_
 refine zaZ ?_
 refine zaI (k:=2) (g:=t.a_9) (fd:=t.d_9) (ps:=["thing","bound"]) G_9 (hr.mono (by decide)) T.m_9 T.F_9.kp T.b_9 ?_
 refine zaa (zab 1) ?_
 refine zaa ?_ zad
 refine zaA (id:="len") zaN zbX T.n_len ?_
 refine zaa ?_ zad
 exact zbv (zab 0) zai
theorem sc_15:zas ["stock","lot"] ["stock","lot"] (zae s_15):=⟨rfl,rfl,rfl,by decide +kernel,rfl,by decide +kernel,by decide +kernel⟩
theorem ok_15 (T:Tx K mg t):zbG P w K mg base (CXE P w) 4 t.a_15 t.d_15 ["stock","lot"] (spE K 2 F_15):=by
 have G_10:=ok_10 (P:=P) (w:=w) (base:=base) T
 refine zd4 (k:=3) (G:=G_15) (N:=["stock","lot"]) (ps:=["stock","lot"]) (st:=s_15) T.F_15 sc_15 fun cdv A outer s H E hr=> ?_
 refine zak ?_
 refine zgD ?_ ?_ zbJ
 refine zea ?_
 refine zc8 ?_
 refine zfZ (k:=3) (g:=t.a_10) (fd:=t.d_10) (ps:=["stock","thing"]) G_10 (hr.mono (by decide)) T.m_10 T.F_10.kp T.b_10 ?_
 refine zaa (zab 0) ?_
 exact zaa (zab 1) zad
 refine zak ?_
 exact zii (c:="NoCover") rfl zfV T.x_exc (by decide +kernel) T.k_4
theorem zvg:(["number","stock"]:List Str).Nodup:=by decide +kernel
theorem sc_16:zas ["stock","lot"] ["stock","lot"] (zae s_16):=⟨rfl,rfl,rfl,by decide +kernel,rfl,by decide +kernel,by decide +kernel⟩
theorem ok_16 (T:Tx K mg t):zbG P w K mg base (CXE P w) 5 t.a_16 t.d_16 ["stock","lot"] (spE K 2 F_16):=by
 have G_15:=ok_15 (P:=P) (w:=w) (base:=base) T
 refine zd4 (k:=4) (G:=G_16) (N:=["stock","lot"]) (ps:=["stock","lot"]) (st:=s_16) T.F_16 sc_16 fun cdv A outer s H E hr=> ?_
 refine zaf ?_ ?_
 refine zcD ?_
 refine zbq (k:=4) (g:=t.a_15) (fd:=t.d_15) (ps:=["stock","lot"]) G_15 (zcc) (hr.mono (by decide)) T.m_15 T.F_15.kp T.b_15 ?_
 refine zaa (zab 0) ?_
 exact zaa (zab 1) zad
 refine zak ?_
 refine zaZ ?_
 refine zb1 (N:=["number","stock"]) rfl ?_ (zax.name (i:=0) rfl) ?_ ?_ ?_ ?_
 exact (BOk.of (Xn:=(zae s_16).names) (XN:=["stock","lot"]) rfl rfl rfl (by decide +kernel))
 exact zcs (zab 1)
 intro _ _ _
 exact zan 0 zvg
 intro _ _ _
 exact zeS
 intro _ _ _
 refine zbv ?_ (zab 0)
 exact zbv (zab 1) zai
theorem zuI:(["offer"]:List Str).Nodup:=by decide +kernel
theorem sc_12:zas ["stock","lot"] ["stock","lot"] (zae s_12):=⟨rfl,rfl,rfl,by decide +kernel,rfl,by decide +kernel,by decide +kernel⟩
theorem ok_12 (T:Tx K mg t):zbG P w K mg base (CXE P w) 6 t.a_12 t.d_12 ["stock","lot"] (spE K 2 F_12):=by
 have G_16:=ok_16 (P:=P) (w:=w) (base:=base) T
 refine zd4 (k:=5) (G:=G_12) (N:=["stock","lot"]) (ps:=["stock","lot"]) (st:=s_12) T.F_12 sc_12 fun cdv A outer s H E hr=> ?_
 refine zak ?_
 refine zaZ ?_
 refine zaA (id:="sum") (zlR rfl) zrH T.n_sum ?_
 refine zaa ?_ zad
 refine zb1 (N:=["offer"]) rfl ?_ (zax.name (i:=0) rfl) ?_ ?_ ?_ ?_
 exact (BOk.of (Xn:=(zae s_12).names) (XN:=["stock","lot"]) rfl rfl rfl (by decide +kernel))
 refine zcs ?_
 refine zbq (k:=5) (g:=t.a_16) (fd:=t.d_16) (ps:=["stock","lot"]) G_16 (zcc) (hr.mono (by decide)) T.m_16 T.F_16.kp T.b_16 ?_
 refine zaa (zab 0) ?_
 exact zaa (zab 1) zad
 intro _ _ _
 exact zan 0 zuI
 intro _ _ _
 exact zeS
 intro _ _ _
 exact zbv (zab 0) zai
theorem zug:(["cover","offer"]:List Str).Nodup:=by decide +kernel
theorem sc_22:zas ["stock","offer"] ["stock","offer"] (zae s_22):=⟨rfl,rfl,rfl,by decide +kernel,rfl,by decide +kernel,by decide +kernel⟩
theorem ok_22 (T:Tx K mg t):zbG P w K mg base (CXE P w) 5 t.a_22 t.d_22 ["stock","offer"] (spE K 2 F_22):=by
 have G_14:=ok_14 (P:=P) (w:=w) (base:=base) T
 have G_13:=ok_13 (P:=P) (w:=w) (base:=base) T
 have G_19:=ok_19 (P:=P) (w:=w) (base:=base) T
 refine zd4 (k:=4) (G:=G_22) (N:=["stock","offer"]) (ps:=["stock","offer"]) (st:=s_22) T.F_22 sc_22 fun cdv A outer s H E hr=> ?_
 refine zaf ?_ ?_
 refine zcD ?_
 refine zbq (k:=2) (g:=t.a_14) (fd:=t.d_14) (ps:=["stock","offer"]) G_14 (zcc) (hr.mono (by decide)) T.m_14 T.F_14.kp T.b_14 ?_
 refine zaa (zab 0) ?_
 exact zaa (zab 1) zad
 refine zaf ?_ ?_
 refine zcD ?_
 refine zbq (k:=4) (g:=t.a_13) (fd:=t.d_13) (ps:=["stock"]) G_13 (zcc) (hr.mono (by decide)) T.m_13 T.F_13.kp T.b_13 ?_
 exact zaa (zab 0) zad
 refine zak ?_
 refine zaZ ?_
 refine zbv ?_ zai
 refine zaA (id:="min") ?_ zi0 T.n_min ?_
 exact (zdP (zdo hr))
 refine zaa ?_ zad
 refine zb1 (N:=["cover","offer"]) rfl ?_ (zax.name (i:=0) rfl) ?_ ?_ ?_ ?_
 exact (BOk.of (Xn:=(zae s_22).names) (XN:=["stock","offer"]) rfl rfl rfl (by decide +kernel))
 refine zcs ?_
 refine zfZ (k:=3) (g:=t.a_19) (fd:=t.d_19) (ps:=["stock"]) G_19 (hr.mono (by decide)) T.m_19 T.F_19.kp T.b_19 ?_
 exact zaa (zab 0) zad
 intro _ _ _
 exact zan 0 zug
 intro _ _ _
 refine zbL ?_
 refine zaH (zfb (zdo hr)) (zab 1) ?_
 exact zbv (zab 0) zai
 intro _ _ _
 exact zab 0
theorem nd_24:(["stock","offer","without","beside"]:List Str).Nodup:=by decide +kernel
theorem sc_24:zas ["stock","offer","without","beside"] ["stock","offer"] (zae s_24):=⟨rfl,rfl,rfl,by decide +kernel,rfl,by decide +kernel,by decide +kernel⟩
theorem ok_24 (T:Tx K mg t):zbG P w K mg base (CXE P w) 7 t.a_24 t.d_24 ["stock","offer"] (spE K 2 F_24):=by
 have G_23:=ok_23 (P:=P) (w:=w) (base:=base) T
 have G_12:=ok_12 (P:=P) (w:=w) (base:=base) T
 have G_22:=ok_22 (P:=P) (w:=w) (base:=base) T
 refine zd4 (k:=6) (G:=G_24) (N:=["stock","offer","without","beside"]) (ps:=["stock","offer"]) (st:=s_24) T.F_24 sc_24 fun cdv A outer s H E hr=> ?_
 refine zaf ?_ ?_
 refine zaM 2 nd_24 ?_
 refine zbq (k:=5) (g:=t.a_23) (fd:=t.d_23) (ps:=["stock","offer"]) G_23 (zcc) (hr.mono (by decide)) T.m_23 T.F_23.kp T.b_23 ?_
 refine zaa (zab 0) ?_
 exact zaa (zab 1) zad
 refine zaf ?_ ?_
 refine zgD ?_ ?_ zbJ
 exact zaH (zkG) (zab 2) zjX
 refine zak ?_
 exact zaZ zjX
 refine zaf ?_ ?_
 refine zaM 3 nd_24 ?_
 refine zb7 (zdI) ?_ ?_
 refine zbq (k:=6) (g:=t.a_12) (fd:=t.d_12) (ps:=["stock","lot"]) G_12 (zcc) (hr.mono (by decide)) T.m_12 T.F_12.kp T.b_12 ?_
 refine zaa (zab 0) ?_
 refine zaa ?_ zad
 refine zbq (k:=5) (g:=t.a_22) (fd:=t.d_22) (ps:=["stock","offer"]) G_22 (zcc) (hr.mono (by decide)) T.m_22 T.F_22.kp T.b_22 ?_
 refine zaa (zab 0) ?_
 exact zaa (zab 1) zad
 refine zbv ?_ zai
 refine zbv ?_ (zab 1)
 exact zbv (zab 0) zai
 refine zak ?_
 refine zaZ ?_
 refine zb7 (zdI) ?_ (zab 3)
 refine zbq (k:=6) (g:=t.a_12) (fd:=t.d_12) (ps:=["stock","lot"]) G_12 (zcc) (hr.mono (by decide)) T.m_12 T.F_12.kp T.b_12 ?_
 refine zaa (zab 0) ?_
 exact zaa (zab 2) zad
theorem sc_35:zas ["found"] ["found"] (zae s_35):=⟨rfl,rfl,rfl,by decide +kernel,rfl,by decide +kernel,by decide +kernel⟩
theorem ok_35 (T:Tx K mg t):zbG P w K mg base CX0 1 t.a_35 t.d_35 ["found"] (zcn K 1 F_35):=by
 refine zb0 (k:=0) (G:=G_35) (N:=["found"]) (ps:=["found"]) (st:=s_35) T.F_35 sc_35 fun cdv A outer s H E hr=> ?_
 refine zak ?_
 refine zaZ ?_
 refine zp5 ?_ ?_
 refine zhI ?_ zoJ T.n_isinstance T.n_int (zab 0)
 exact zl5
 refine zpy ?_
 refine zrP ?_
 refine zhI ?_ zkl T.n_isinstance T.n_bool (zab 0)
 exact ziT
theorem nd_27:(["stock","covers","least"]:List Str).Nodup:=by decide +kernel
theorem ztm:(["cover","least"]:List Str).Nodup:=by decide +kernel
theorem sc_27:zas ["stock","covers","least"] ["stock"] (zae s_27):=⟨rfl,rfl,rfl,by decide +kernel,rfl,by decide +kernel,by decide +kernel⟩
theorem ok_27 (T:Tx K mg t):zbG P w K mg base CX0 5 t.a_27 t.d_27 ["stock"] (zcn K 1 F_27):=by
 have G_13:=ok_13 (P:=P) (w:=w) (base:=base) T
 have G_19:=ok_19 (P:=P) (w:=w) (base:=base) T
 refine zb0 (k:=4) (G:=G_27) (N:=["stock","covers","least"]) (ps:=["stock"]) (st:=s_27) T.F_27 sc_27 fun cdv A outer s H E hr=> ?_
 refine zaf ?_ ?_
 refine zcD ?_
 refine zbq (k:=4) (g:=t.a_13) (fd:=t.d_13) (ps:=["stock"]) G_13 ?_ (hr.mono (by decide)) T.m_13 T.F_13.kp T.b_13 ?_
 exact zhQ
 exact zaa (zab 0) zad
 refine zaf ?_ ?_
 refine zaM 1 nd_27 ?_
 refine zaI (k:=3) (g:=t.a_19) (fd:=t.d_19) (ps:=["stock"]) G_19 (hr.mono (by decide)) T.m_19 T.F_19.kp T.b_19 ?_
 exact zaa (zab 0) zad
 refine zaf ?_ ?_
 refine zaM 2 nd_27 ?_
 refine zbv ?_ zai
 refine zaA (id:="min") ?_ zi0 T.n_min ?_
 exact (zdP (zdo hr))
 exact zaa (zab 1) zad
 refine zak ?_
 refine zaZ ?_
 refine zb1 (N:=["cover","least"]) rfl ?_ (zax.name (i:=0) rfl) ?_ ?_ ?_ ?_
 exact (BOk.of (Xn:=(zae s_27).names) (XN:=["stock","covers","least"]) rfl rfl rfl (by decide +kernel))
 exact zcs (zab 1)
 intro _ _ _
 exact zan 0 ztm
 intro _ _ _
 refine zbL ?_
 refine zaH (zd8 (zdo hr)) ?_ (zab 1)
 exact zbv (zab 0) zai
 intro _ _ _
 exact zbv (zab 0) zai
theorem nd_25:(["stock","covers"]:List Str).Nodup:=by decide +kernel
theorem zvk:(["number","covers"]:List Str).Nodup:=by decide +kernel
theorem zuK:(["cover","number"]:List Str).Nodup:=by decide +kernel
theorem sc_25:zas ["stock","covers"] ["stock"] (zae s_25):=⟨rfl,rfl,rfl,by decide +kernel,rfl,by decide +kernel,by decide +kernel⟩
theorem ok_25 (T:Tx K mg t):zbG P w K mg base CX0 6 t.a_25 t.d_25 ["stock"] (zcn K 1 F_25):=by
 have G_27:=ok_27 (P:=P) (w:=w) (base:=base) T
 refine zb0 (k:=5) (G:=G_25) (N:=["stock","covers"]) (ps:=["stock"]) (st:=s_25) T.F_25 sc_25 fun cdv A outer s H E hr=> ?_
 refine zaf ?_ ?_
 refine zaM 1 nd_25 ?_
 refine zaI (k:=5) (g:=t.a_27) (fd:=t.d_27) (ps:=["stock"]) G_27 (hr.mono (by decide)) T.m_27 T.F_27.kp T.b_27 ?_
 exact zaa (zab 0) zad
 refine zak ?_
 refine zaZ ?_
 refine zk2 (N:=["number","covers"]) rfl ?_ (zax.name (i:=0) rfl) ?_ ?_ ?_ ?_
 exact (BOk.of (Xn:=(zae s_25).names) (XN:=["stock","covers"]) rfl rfl rfl (by decide +kernel))
 refine zdm T.n_range ?_
 refine zaa ?_ zad
 refine zaA (id:="len") zaN zbX T.n_len ?_
 refine zaa ?_ zad
 exact zbv (zab 0) zai
 intro _ _ _
 exact zan 0 zvk
 intro _ _ _
 refine zbL ?_
 refine zc8 ?_
 refine zaA (id:="any") (zkR rfl) zrT T.n_any ?_
 refine zaa ?_ zad
 refine zb1 (N:=["cover","number"]) rfl ?_ (zax.name (i:=0) rfl) ?_ ?_ ?_ ?_
 exact (BOk.of (N:=["cover","number"]) (src:=[none,some 0]) rfl rfl rfl (by rfl))
 exact zcs (zab 1)
 intro _ _ _
 exact zan 0 zuK
 intro _ _ _
 exact zeS
 intro _ _ _
 exact zlH (zfb (zdo hr)) (zab 1) (zab 0)
 intro _ _ _
 exact zab 0
theorem nd_26:(["stock","covers"]:List Str).Nodup:=by decide +kernel
theorem zuX:(["number","covers"]:List Str).Nodup:=by decide +kernel
theorem zsC:(["cover","number"]:List Str).Nodup:=by decide +kernel
theorem sc_26:zas ["stock","covers"] ["stock"] (zae s_26):=⟨rfl,rfl,rfl,by decide +kernel,rfl,by decide +kernel,by decide +kernel⟩
theorem ok_26 (T:Tx K mg t):zbG P w K mg base CX0 6 t.a_26 t.d_26 ["stock"] (zcn K 1 F_26):=by
 have G_27:=ok_27 (P:=P) (w:=w) (base:=base) T
 refine zb0 (k:=5) (G:=G_26) (N:=["stock","covers"]) (ps:=["stock"]) (st:=s_26) T.F_26 sc_26 fun cdv A outer s H E hr=> ?_
 refine zaf ?_ ?_
 refine zaM 1 nd_26 ?_
 refine zaI (k:=5) (g:=t.a_27) (fd:=t.d_27) (ps:=["stock"]) G_27 (hr.mono (by decide)) T.m_27 T.F_27.kp T.b_27 ?_
 exact zaa (zab 0) zad
 refine zak ?_
 refine zaZ ?_
 refine zk2 (N:=["number","covers"]) rfl ?_ (zax.name (i:=0) rfl) ?_ ?_ ?_ ?_
 exact (BOk.of (Xn:=(zae s_26).names) (XN:=["stock","covers"]) rfl rfl rfl (by decide +kernel))
 refine zdm T.n_range ?_
 refine zaa ?_ zad
 refine zaA (id:="len") zaN zbX T.n_len ?_
 refine zaa ?_ zad
 exact zbv (zab 0) zai
 intro _ _ _
 exact zan 0 zuX
 intro _ _ _
 refine zbL ?_
 refine zc8 ?_
 refine zaA (id:="all") (zl0 rfl) zs1 T.n_all ?_
 refine zaa ?_ zad
 refine zb1 (N:=["cover","number"]) rfl ?_ (zax.name (i:=0) rfl) ?_ ?_ ?_ ?_
 exact (BOk.of (N:=["cover","number"]) (src:=[none,some 0]) rfl rfl rfl (by rfl))
 exact zcs (zab 1)
 intro _ _ _
 exact zan 0 zsC
 intro _ _ _
 exact zeS
 intro _ _ _
 exact zlH (zfb (zdo hr)) (zab 1) (zab 0)
 intro _ _ _
 exact zab 0
theorem nd_36:(["e","kinds"]:List Str).Nodup:=by decide +kernel
theorem sc_36:zas ["e","kinds"] ["e"] (zae s_36):=⟨rfl,rfl,rfl,by decide +kernel,rfl,by decide +kernel,by decide +kernel⟩
theorem ok_36 (T:Tx K mg t):FnH P w K mg base  1 t.a_36 t.d_36 ["e"] (zcn K 1 F_36):=by
 refine zsc (k:=0) (G:=G_36) (N:=["e","kinds"]) (ps:=["e"]) (st:=s_36) T.F_36 sc_36 fun cdv A outer s H hr=> ?_
 refine zaf ?_ ?_
 refine zaM 1 nd_36 ?_
 refine zeN ?_
 refine zaa ?_ ?_
 refine zhM (CE:=t.a_0) (CC:=t.a_5) T.x_exc ?_ T.k_5 T.n_isinstance T.g_5 (zab 0)
 exact (by decide +kernel)
 refine zaa ?_ ?_
 refine zhM (CE:=t.a_0) (CC:=t.a_4) T.x_exc ?_ T.k_4 T.n_isinstance T.g_4 (zab 0)
 exact (by decide +kernel)
 refine zaa ?_ ?_
 refine zhM (CE:=t.a_0) (CC:=t.a_6) T.x_exc ?_ T.k_6 T.n_isinstance T.g_6 (zab 0)
 exact (by decide +kernel)
 refine zaa ?_ zad
 refine zhM (CE:=t.a_0) (CC:=t.a_2) T.x_exc ?_ T.k_2 T.n_isinstance T.g_2 (zab 0)
 exact (by decide +kernel)
 refine zaf ?_ ?_
 refine zaM 1 nd_36 ?_
 refine zb7 (zaO) (zab 1) ?_
 refine zeN ?_
 refine zaa ?_ ?_
 refine zhM (CE:=t.a_0) (CC:=t.a_3) T.x_exc ?_ T.k_3 T.n_isinstance T.g_3 (zab 0)
 exact (by decide +kernel)
 refine zaa ?_ ?_
 refine zhM (CE:=t.a_0) (CC:=t.a_1) T.x_exc ?_ T.k_1 T.n_isinstance T.g_1 (zab 0)
 exact (by decide +kernel)
 refine zaa ?_ ?_
 refine zhM (CE:=t.a_0) (CC:=t.a_7) T.x_exc ?_ T.k_7 T.n_isinstance T.g_7 (zab 0)
 exact (by decide +kernel)
 exact zaa zmb zad
 refine zak ?_
 refine zaZ ?_
 refine zbv ?_ ?_
 refine zeN ?_
 refine zaa zfi ?_
 refine zaa zfi ?_
 refine zaa zfi ?_
 refine zaa zfi ?_
 refine zaa zfi ?_
 refine zaa zfi ?_
 refine zaa zfi ?_
 exact zaa zfi zad
 exact zo5 (zab 1)
theorem nd_37:(["stock","offer","word","e"]:List Str).Nodup:=by decide +kernel
theorem sc_37:zas ["stock","offer","word","e"] ["stock","offer"] (zae s_37):=⟨rfl,rfl,rfl,by decide +kernel,rfl,by decide +kernel,by decide +kernel⟩
theorem ok_37 (T:Tx K mg t):zbG P w K mg base CX0 8 t.a_37 t.d_37 ["stock","offer"] (zcn K 2 F_37):=by
 have G_36:=ok_36 (P:=P) (w:=w) (base:=base) T
 have G_24:=ok_24 (P:=P) (w:=w) (base:=base) T
 refine zb0 (k:=7) (G:=G_37) (N:=["stock","offer","word","e"]) (ps:=["stock","offer"]) (st:=s_37) T.F_37 sc_37 fun cdv A outer s H E hr=> ?_
 refine zaf ?_ ?_
 exact zaM 2 nd_37 zfi
 refine zaf ?_ ?_
 refine zsV (CE:=t.a_0) (pe:="e") (k:=1) (fdk:=t.d_36) (fk:=t.a_36) 3 2 ?_ nd_37 T.g_0 T.x_exc G_36 T.b_36 T.m_36 T.F_36.kp ?_ ?_
 exact zrJ
 exact (zc2.of (hr.mono (by decide)))
 intro pn xe E' hx
 refine zak ?_
 refine zcD ?_
 refine zbq (k:=7) (g:=t.a_24) (fd:=t.d_24) (ps:=["stock","offer"]) G_24 ?_ (hr.mono (by decide)) T.m_24 T.F_24.kp T.b_24 ?_
 exact hx
 refine zaa (zab 0) ?_
 exact zaa (zab 1) zad
 refine zak ?_
 exact zaZ (zab 2)
theorem nd_38:(["script","k","stock","some","many","offer","rest","own","found","best","counts","turn","one","other","due"]:List Str).Nodup:=by decide +kernel
theorem zoq:(["paid","lot","offer"]:List Str).Nodup:=by decide +kernel
theorem zoS:(["paid","lot","offer","stock"]:List Str).Nodup:=by decide +kernel
theorem zot:(["paid","lot","some"]:List Str).Nodup:=by decide +kernel
theorem zrz:(["offer","best"]:List Str).Nodup:=by decide +kernel
theorem zsO:(["lot","offer"]:List Str).Nodup:=by decide +kernel
theorem zs3:(["offer","counts"]:List Str).Nodup:=by decide +kernel
theorem zry:(["offer","counts","best"]:List Str).Nodup:=by decide +kernel
theorem zsZ:(["thing","stock"]:List Str).Nodup:=by decide +kernel
theorem sc_38:zas ["script","k","stock","some","many","offer","rest","own","found","best","counts","turn","one","other","due"] ["script"] (zae s_38):=⟨rfl,rfl,rfl,by decide +kernel,rfl,by decide +kernel,by decide +kernel⟩
theorem ok_38 (T:Tx K mg t):zbG P w K mg base CX0 9 t.a_38 t.d_38 ["script"] (zcn K 1 F_38):=by
 have G_33:=ok_33 (P:=P) (w:=w) (base:=base) T
 have G_30:=ok_30 (P:=P) (w:=w) (base:=base) T
 have G_34:=ok_34 (P:=P) (w:=w) (base:=base) T
 have G_24:=ok_24 (P:=P) (w:=w) (base:=base) T
 have G_35:=ok_35 (P:=P) (w:=w) (base:=base) T
 have G_25:=ok_25 (P:=P) (w:=w) (base:=base) T
 have G_26:=ok_26 (P:=P) (w:=w) (base:=base) T
 have G_37:=ok_37 (P:=P) (w:=w) (base:=base) T
 refine zb0 (k:=8) (G:=G_38) (N:=["script","k","stock","some","many","offer","rest","own","found","best","counts","turn","one","other","due"]) (ps:=["script"]) (st:=s_38) T.F_38 sc_38 fun cdv A outer s H E hr=> ?_
 refine zaf ?_ ?_
 refine zeg rfl PassesOwn.never ?_ (zan 1 nd_38) ?_
 refine zdm T.n_range ?_
 refine zaa ?_ zad
 refine zaA (id:="max") (zj0 rfl) ztw T.n_max ?_
 refine zaa zai ?_
 refine zaa ?_ zad
 refine zaA (id:="min") (zjW rfl) zi0 T.n_min ?_
 refine zaa ?_ ?_
 refine zaA (id:="len") zaN zbX T.n_len ?_
 exact zaa (zab 0) zad
 exact zaa zai zad
 refine zaf ?_ ?_
 refine zaM 2 nd_38 ?_
 refine zaI (k:=3) (g:=t.a_33) (fd:=t.d_33) (ps:=["box","most_things","most_offers"]) G_33 (hr.mono (by decide)) T.m_33 T.F_33.kp T.b_33 ?_
 refine zaa ?_ ?_
 refine zaI (k:=2) (g:=t.a_30) (fd:=t.d_30) (ps:=["script","k"]) G_30 (hr.mono (by decide)) T.m_30 T.F_30.kp T.b_30 ?_
 refine zaa (zab 0) ?_
 exact zaa (zab 1) zad
 refine zaa zai ?_
 exact zaa zai zad
 refine zaf ?_ ?_
 refine zaM 3 nd_38 ?_
 refine zaI (k:=1) (g:=t.a_34) (fd:=t.d_34) (ps:=["stock"]) G_34 (hr.mono (by decide)) T.m_34 T.F_34.kp T.b_34 ?_
 exact zaa (zab 2) zad
 refine zaf ?_ ?_
 refine zaM 4 nd_38 ?_
 refine zaA (id:="len") zaN zbX T.n_len ?_
 refine zaa ?_ zad
 exact zbv (zab 2) zai
 refine zaf ?_ ?_
 refine zeg rfl PassesOwn.never ?_ (zan 5 nd_38) ?_
 refine zdm T.n_range ?_
 exact zaa (zab 4) zad
 refine zaf ?_ ?_
 refine zbR 6 (N:=["paid","lot","offer"]) rfl nd_38 ?_ ?_ ?_ ?_ ?_ ?_
 exact (BOk.of (Xn:=(zae s_38).names) (XN:=["script","k","stock","some","many","offer","rest","own","found","best","counts","turn","one","other","due"]) rfl rfl rfl (by decide +kernel))
 exact (zax.tup (zbd.cons (i:=0) rfl (zbd.cons (i:=1) rfl zbd.nil)))
 exact zcs (zab 3)
 intro _ _ _
 refine zgT rfl ?_
 refine zbH (zan 0 zoq) ?_
 exact zbH (zan 1 zoq) zfl
 intro _ _ _
 refine zbL ?_
 exact zaH (zhl (zdo hr)) (zab 2) (zab 1)
 intro _ _ _
 exact zab 0
 refine zaf ?_ ?_
 refine zbR 7 (N:=["paid","lot","offer","stock"]) rfl nd_38 ?_ ?_ ?_ ?_ ?_ ?_
 exact (BOk.of (Xn:=(zae s_38).names) (XN:=["script","k","stock","some","many","offer","rest","own","found","best","counts","turn","one","other","due"]) rfl rfl rfl (by decide +kernel))
 exact (zax.tup (zbd.cons (i:=0) rfl (zbd.cons (i:=1) rfl zbd.nil)))
 exact zcs (zab 3)
 intro _ _ _
 refine zgT rfl ?_
 refine zbH (zan 0 zoS) ?_
 exact zbH (zan 1 zoS) zfl
 intro _ _ _
 refine zbL ?_
 exact zaH (zfb (zdo hr)) (zab 2) (zab 1)
 intro _ _ _
 refine zb7 (zdI) (zab 0) ?_
 refine zbv ?_ zai
 refine zbv ?_ (zab 2)
 exact zbv (zab 3) zai
 refine zaf ?_ ?_
 refine zaM 8 nd_38 ?_
 refine zbq (k:=7) (g:=t.a_24) (fd:=t.d_24) (ps:=["stock","offer"]) G_24 ?_ (hr.mono (by decide)) T.m_24 T.F_24.kp T.b_24 ?_
 exact zhQ
 refine zaa (zab 2) ?_
 exact zaa (zab 5) zad
 refine zak ?_
 refine zgD ?_ ?_ ?_
 refine zaH (ziJ (zdo hr)) (zab 6) ?_
 exact zeN zad
 refine zak ?_
 refine zgD ?_ ?_ zbJ
 exact zaH (zqK) (zab 8) zjX
 refine zak ?_
 exact zaZ zmb
 refine zak ?_
 refine zgD ?_ ?_ zbJ
 refine zfg ?_
 refine zhJ ?_ ?_
 refine zea ?_
 refine zc8 ?_
 refine zaI (k:=1) (g:=t.a_35) (fd:=t.d_35) (ps:=["found"]) G_35 (hr.mono (by decide)) T.m_35 T.F_35.kp T.b_35 ?_
 exact zaa (zab 8) zad
 refine zgP ?_
 refine zaH (zjd (zdo hr)) (zab 8) ?_
 refine zb7 (zdI) ?_ ?_
 exact zbv (zab 6) zai
 exact zbv (zab 7) zai
 refine zak ?_
 exact zaZ zmb
 refine zaf ?_ ?_
 refine zaM 9 nd_38 ?_
 refine zb1 (N:=["paid","lot","some"]) rfl ?_ ?_ ?_ ?_ ?_ ?_
 exact (BOk.of (Xn:=(zae s_38).names) (XN:=["script","k","stock","some","many","offer","rest","own","found","best","counts","turn","one","other","due"]) rfl rfl rfl (by decide +kernel))
 exact (zax.tup (zbd.cons (i:=0) rfl (zbd.cons (i:=1) rfl zbd.nil)))
 exact zcs (zab 3)
 intro _ _ _
 refine zgT rfl ?_
 refine zbH (zan 0 zot) ?_
 exact zbH (zan 1 zot) zfl
 intro _ _ _
 refine zbL ?_
 refine zaH (ziJ (zdo hr)) (zab 0) ?_
 refine zbv ?_ zai
 exact zbv (zab 2) zai
 intro _ _ _
 exact zab 1
 refine zaf ?_ ?_
 refine zaM 10 nd_38 ?_
 refine zb1 (N:=["offer","best"]) rfl ?_ (zax.name (i:=0) rfl) ?_ ?_ ?_ ?_
 exact (BOk.of (Xn:=(zae s_38).names) (XN:=["script","k","stock","some","many","offer","rest","own","found","best","counts","turn","one","other","due"]) rfl rfl rfl (by decide +kernel))
 refine zdm T.n_range ?_
 exact zaa (zab 4) zad
 intro _ _ _
 exact zan 0 zrz
 intro _ _ _
 exact zeS
 intro _ _ _
 refine zaA (id:="len") zaN zbX T.n_len ?_
 refine zaa ?_ zad
 refine zb1 (N:=["lot","offer"]) rfl ?_ (zax.name (i:=0) rfl) ?_ ?_ ?_ ?_
 exact (BOk.of (N:=["lot","offer"]) (src:=[none,some 0]) rfl rfl rfl (by rfl))
 exact zcs (zab 1)
 intro _ _ _
 exact zan 0 zsO
 intro _ _ _
 refine zbL ?_
 exact zaH (zfb (zdo hr)) (zab 1) (zab 0)
 intro _ _ _
 exact zab 0
 refine zaf ?_ ?_
 refine zeg rfl PassesOwn.never ?_ (zan 11 nd_38) ?_
 refine zdm T.n_range ?_
 exact zaa zai zad
 refine zaf ?_ ?_
 refine zaM 12 nd_38 ?_
 refine zaI (k:=6) (g:=t.a_25) (fd:=t.d_25) (ps:=["stock"]) G_25 (hr.mono (by decide)) T.m_25 T.F_25.kp T.b_25 ?_
 exact zaa (zab 2) zad
 refine zaf ?_ ?_
 refine zaM 13 nd_38 ?_
 refine zaI (k:=6) (g:=t.a_26) (fd:=t.d_26) (ps:=["stock"]) G_26 (hr.mono (by decide)) T.m_26 T.F_26.kp T.b_26 ?_
 exact zaa (zab 2) zad
 refine zaf ?_ ?_
 refine zbR 14 (N:=["offer","counts"]) rfl nd_38 ?_ (zax.name (i:=0) rfl) ?_ ?_ ?_ ?_
 exact (BOk.of (Xn:=(zae s_38).names) (XN:=["script","k","stock","some","many","offer","rest","own","found","best","counts","turn","one","other","due"]) rfl rfl rfl (by decide +kernel))
 refine zdm T.n_range ?_
 exact zaa (zab 4) zad
 intro _ _ _
 exact zan 0 zs3
 intro _ _ _
 refine zbL ?_
 refine zaH (zsv) ?_ zai
 exact zbv (zab 1) (zab 0)
 intro _ _ _
 exact zab 0
 refine zaf ?_ ?_
 refine zgD ?_ ?_ zbJ
 refine zfg ?_
 refine zhJ ?_ ?_
 refine zea ?_
 refine zc8 ?_
 refine zhI ?_ zml T.n_isinstance T.n_list (zab 12)
 exact ziZ
 refine zgP ?_
 exact zaH (zjd (zdo hr)) (zab 12) (zab 14)
 refine zak ?_
 exact zaZ zmb
 refine zaf ?_ ?_
 refine zbR 14 (N:=["offer","counts","best"]) rfl nd_38 ?_ (zax.name (i:=0) rfl) ?_ ?_ ?_ ?_
 exact (BOk.of (Xn:=(zae s_38).names) (XN:=["script","k","stock","some","many","offer","rest","own","found","best","counts","turn","one","other","due"]) rfl rfl rfl (by decide +kernel))
 refine zdm T.n_range ?_
 exact zaa (zab 4) zad
 intro _ _ _
 exact zan 0 zry
 intro _ _ _
 refine zbL ?_
 refine zaH (ziJ (zdo hr)) ?_ ?_
 exact zbv (zab 1) (zab 0)
 refine zaA (id:="len") zaN zbX T.n_len ?_
 exact zaa (zab 2) zad
 intro _ _ _
 exact zab 0
 refine zaf ?_ ?_
 refine zgD ?_ ?_ zbJ
 refine zfg ?_
 refine zhJ ?_ ?_
 refine zea ?_
 refine zc8 ?_
 refine zhI ?_ zml T.n_isinstance T.n_list (zab 13)
 exact ziZ
 refine zgP ?_
 exact zaH (zjd (zdo hr)) (zab 13) (zab 14)
 refine zak ?_
 exact zaZ zmb
 refine zaf ?_ ?_
 refine zcD ?_
 exact zeh (zab 12) zai
 refine zak ?_
 refine zcD ?_
 exact zeh (zab 13) zai
 refine zak ?_
 refine zgD ?_ ?_ zbJ
 refine zaH (zjd (zdo hr)) ?_ ?_
 refine zb1 (N:=["thing","stock"]) rfl ?_ (zax.name (i:=0) rfl) ?_ ?_ ?_ ?_
 exact (BOk.of (Xn:=(zae s_38).names) (XN:=["script","k","stock","some","many","offer","rest","own","found","best","counts","turn","one","other","due"]) rfl rfl rfl (by decide +kernel))
 refine zcs ?_
 refine zeN ?_
 refine zaa (zab 4) ?_
 refine zaa ?_ ?_
 exact zpm zai
 refine zaa zmb ?_
 exact zaa zjX zad
 intro _ _ _
 exact zan 0 zsZ
 intro _ _ _
 exact zeS
 intro _ _ _
 refine zaI (k:=8) (g:=t.a_37) (fd:=t.d_37) (ps:=["stock","offer"]) G_37 (hr.mono (by decide)) T.m_37 T.F_37.kp T.b_37 ?_
 refine zaa (zab 1) ?_
 exact zaa (zab 0) zad
 refine zb7 (zqi) ?_ zai
 refine zeN ?_
 exact zaa zfi zad
 refine zak ?_
 exact zaZ zmb
 refine zak ?_
 refine zaZ ?_
 refine zp5 ?_ ?_
 refine zlH (ziJ (zdo hr)) ?_ zfi
 refine zaI (k:=8) (g:=t.a_37) (fd:=t.d_37) (ps:=["stock","offer"]) G_37 (hr.mono (by decide)) T.m_37 T.F_37.kp T.b_37 ?_
 refine zaa ?_ ?_
 refine zcl ?_
 refine zaa zai ?_
 refine zaa ?_ zad
 refine zcl ?_
 refine zaa ?_ zad
 refine zcl ?_
 refine zaa ?_ ?_
 refine zcl ?_
 exact zaa zai zad
 exact zaa zai zad
 exact zaa zai zad
 refine zpy ?_
 refine zlH (zkG) ?_ zjX
 refine zbq (k:=7) (g:=t.a_24) (fd:=t.d_24) (ps:=["stock","offer"]) G_24 ?_ (hr.mono (by decide)) T.m_24 T.F_24.kp T.b_24 ?_
 exact zhQ
 refine zaa ?_ ?_
 refine zcl ?_
 refine zaa zai ?_
 refine zaa ?_ zad
 refine zcl ?_
 refine zaa ?_ zad
 refine zcl ?_
 refine zaa ?_ ?_
 refine zcl ?_
 exact zaa zai zad
 exact zaa zai zad
 exact zaa zai zad
end
end K82
namespace L3
open PySem PySem.Spec PyProof.Rows L2 LT
section
theorem zjY {i j:Int} (h0:0<j) (h1:j<2^100):zeM [.int i,.int j]=pure (.tup [.int (i / j),.int (i % j)]):=by
 unfold zeM
 simp only
 rw [if_pos ⟨h0,h1⟩]
theorem zgo {i j:Int} (h:(za0 i || za0 j || zhu i j)=true):zgj (.int i) (.int j)=pure (.int (i*j)):=by
 show (if (za0 i || za0 j || zhu i j)=true then _ else _)=_
 rw [if_pos h]
theorem zle {i j:Int} (h: -1000000000000000<i) (h':i<1000000000000000):zgj (.int i) (.int j)=pure (.int (i*j)):=zgo (by rw [zel h h'];rfl)
theorem zmj {i j:Int} (h: -1000000000000000<j) (h':j<1000000000000000):zgj (.int i) (.int j)=pure (.int (i*j)):=zgo (by rw [zel h h'];simp)
theorem zpX {x:Int} {n:Nat} (h:x.natAbs<2^n):Builtin.Int.intBits x<=n:=by
 unfold Builtin.Int.intBits
 split
 ·exact Nat.zero_le _
 ·rename_i c
  have h0:x.natAbs≠0:=fun z=>c (by simp;omega)
  exact (Nat.log2_lt h0).mpr h
theorem zif {x:Int} {n:Nat} (h:Builtin.Int.intBits x<=n):x.natAbs<2^n:=by
 unfold Builtin.Int.intBits at h
 split at h
 ·rename_i c
  have:x=0:=by simpa using c
  subst this
  exact Nat.pow_pos (by decide)
 ·rename_i c
  have h0:x.natAbs≠0:=fun z=>c (by simp;omega)
  exact (Nat.log2_lt h0).mp h
theorem znr {c k:Int} {n:Nat} (h:Builtin.Int.intBits c<=n) (k0:0<=k) (k1:k<24):Builtin.Int.intBits ((c+1)*40692+104729*k)<=n+22:=by
 refine zpX ?_
 have h1:=zif h
 rw [Nat.pow_add]
 generalize 2^n=B at h1
 have:(2:Nat)^22=4194304:=rfl
 rw [this]
 omega
theorem zrI:ztG (.int 10) (.int 20)=pure (.int 100000000000000000000):=by
 unfold ztG dII
 simp only
 rw [if_pos (by decide)]
 rfl
theorem zsB {n:Nat}:zc5 [.cel n]=(do let ds<-zaj n;pure (.tup ds)):=rfl
end
section
noncomputable def pdO (o:List Int×Int):PyData:= .tuple [.tuple (o.1.map PyData.int),.int o.2]
theorem zmn: ∀ os:List (List Int×Int),pdL (os.map zcF)=some (os.map pdO)
 | []=>rfl
 | o::r=>by
  rw [qaz,pdL,zmn r]
  simp only [zcF,tI,pd,pdL,zbN,Option.map,pdO,qaz]
theorem zi8: ∀ os:List (List Int×Int),PyData.canLayAll0 (os.map pdO)=true
 | []=>rfl
 | o::r=>by simp [PyData.canLayAll0,PyData.canLay0,za3,zi8 r,pdO]
theorem zno (os:List (List Int×Int)):dEq (.lst (os.map zcF)) (.lst [])=pure (.bl os.isEmpty):=by
 have e1:pd (.lst (os.map zcF))=some (.list (os.map pdO)):=by unfold pd;rw [zmn];rfl
 have e2:pd (.lst [])=some (.list []):=rfl
 rw [zou e1 e2 (by unfold zew;simp [PyData.canLay0,PyData.canLayAll0,zi8,PyData.depth,PyData.depthAll])]
 cases os<;>rfl
theorem zap {α β:Type} {p:α->Bool} {g:α->β}: ∀ xs:List α,xs.filterMap (fun x=>if p x=true then some (g x) else none)=(xs.filter p).map g
 | []=>rfl
 | x::r=>by
  rw [List.filterMap_cons,List.filter_cons,zap r]
  cases p x<;>simp
theorem zaw {α:Type} {g':α->D} {fi:FA} {g:D->Sd->M Sd} {tc:FT} {te:FE} {src:List (Option Nat)} {sd:Sd} {xs:List α} {k:α->Option D} (hi:fi sd=pure (xs.map g')) (hl:xs.length<=1000) (hf: ∀ x∈xs,zaT g tc te (zah src sd) (g' x)=pure (k x)):zav fi g tc te src sd=pure (.lst (xs.filterMap k)):=by
 unfold zav
 rw [hi]
 simp only [pure_bind]
 rw [zaz (by rw [qax];exact hl)]
 simp only [pure_bind]
 have: ∀ {ys:List α},(∀ x∈ys,zaT g tc te (zah src sd) (g' x)=pure (k x))->zbt (zaT g tc te (zah src sd)) (ys.map g')=pure (ys.filterMap k):=by
  intro ys
  induction ys with
  | nil=>intro _;rfl
  | cons x r ih=>
   intro hf
   rw [qaz,zbt,hf x qan,ih fun y hy=>hf y (qaj _ hy)]
   simp only [pure_bind]
   cases e:k x<;>simp [List.filterMap_cons,e]
 rw [this hf]
 simp only [pure_bind]
theorem zg1: ∀ {xs ys zs:List Int},HT.zbp xs ys=true->HT.zbp ys zs=true->HT.zbp xs zs=true
 | [],[],_,h,_=>by cases h
 | [],_::_,[],_,h=>by cases h
 | [],_::_,_::_,_,_=>rfl
 | _::_,[],_,h,_=>by cases h
 | _::_,_::_,[],_,h=>by cases h
 | x::xs,y::ys,z::zs,h1,h2=>by
  rw [HT.zbg] at h1 h2 ⊢
  split at h1
  ·split at h2
   ·rw [if_pos (by omega)]
    exact zg1 h1 h2
   ·simp at h2
    rw [if_neg (by omega)]
    simp
    omega
  ·simp at h1
   split at h2
   ·rw [if_neg (by omega)]
    simp
    omega
   ·simp at h2
    rw [if_neg (by omega)]
    simp
    omega
theorem zjk: ∀ {xs ys:List Int},HT.zbp xs ys=false->HT.zbp ys xs=false->xs=ys
 | [],[],_,_=>rfl
 | [],_::_,h,_=>by cases h
 | _::_,[],_,h=>by cases h
 | x::xs,y::ys,h1,h2=>by
  rw [HT.zbg] at h1 h2
  by_cases e:x=y
  ·rw [if_pos e] at h1
   rw [if_pos e.symm] at h2
   rw [e,zjk h1 h2]
  ·rw [if_neg e] at h1
   rw [if_neg (Ne.symm e)] at h2
   simp at h1 h2
   omega
theorem zk7 {p q r:Int×List Int} (h1:pLt p q=true) (h2:pLt q r=true):pLt p r=true:=by
 unfold pLt at*
 split at h1
 ·split at h2
  ·rw [if_pos (by omega)]
   exact zg1 h1 h2
  ·simp at h2
   rw [if_neg (by omega)]
   simp
   omega
 ·simp at h1
  split at h2
  ·rw [if_neg (by omega)]
   simp
   omega
  ·simp at h2
   rw [if_neg (by omega)]
   simp
   omega
theorem ziR {p q:Int×List Int} (h1:pLt p q=false) (h2:pLt q p=false):p=q:=by
 unfold pLt at*
 by_cases e:p.1=q.1
 ·rw [if_pos e] at h1
  rw [if_pos e.symm] at h2
  exact Prod.ext e (zjk h1 h2)
 ·rw [if_neg e] at h1
  rw [if_neg (Ne.symm e)] at h2
  simp at h1 h2
  omega
theorem zkV (f:Nat->Int×List Int): ∀ k,argBest (fun i j=>pLt (f i) (f j)) k<=k/\ ∀ i,i<=k->pLt (f i) (f (argBest (fun i j=>pLt (f i) (f j)) k))=false
 | 0=>⟨qaG _,fun i hi=>by
   have:i=0:=by omega
   subst this
   show pLt (f 0) (f 0)=false
   unfold pLt
   rw [if_pos rfl,zcW]⟩
 | k+1=>by
  obtain ⟨h1,h2⟩:=zkV f k
  unfold argBest
  by_cases c:pLt (f (k+1)) (f (argBest (fun i j=>pLt (f i) (f j)) k))=true
  ·rw [if_pos c]
   refine ⟨qaG _,fun i hi=> ?_⟩
   by_cases e:i=k+1
   ·subst e
    unfold pLt
    rw [if_pos rfl,zcW]
   ·have h3:=h2 i (by omega)
    cases h4:pLt (f i) (f (k+1)) with
    | false=>rfl
    | true=>rw [zk7 h4 c] at h3;cases h3
  ·rw [if_neg c]
   refine ⟨by omega,fun i hi=> ?_⟩
   by_cases e:i=k+1
   ·subst e
    simpa using c
   ·exact h2 i (by omega)
theorem zcH {ps:List (Int×List Int)} (h:ps≠[]):zbw ps<ps.length/\ ∀ q∈ps,pLt q (ps.getD (zbw ps) (0,[]))=false:=by
 have hl:=List.length_pos_iff.mpr h
 obtain ⟨h1,h2⟩:=zkV (fun i=>ps.getD i (0,[])) (ps.length - 1)
 refine ⟨Nat.lt_of_le_of_lt h1 (by omega),fun q hq=> ?_⟩
 obtain ⟨i,hi,rfl⟩:=List.getElem_of_mem hq
 have h3:=h2 i (by omega)
 have e:ps.getD i (0,[])=ps[i]:=by simp [List.getD,hi]
 rw [<- e]
 exact h3
theorem zhc {α:Type} {g':α->D} {f:D->M (Option D)} {k:α->Option D}: ∀ {xs:List α},(∀ x∈xs,Ev (f (g' x)) (k x))->Ev (zbt f (xs.map g')) (xs.filterMap k)
 | [],_=> .of rfl
 | x::r,hf=>by
  rw [qaz,zbt]
  refine Ev.bind (hf x qan) (Ev.bind (zhc fun y hy=>hf y (qaj _ hy)) (.of ?_))
  cases e:k x<;>simp [List.filterMap_cons,e]
theorem zl9 {α:Type} {g':α->D} {fi:FA} {g:D->Sd->M Sd} {tc:FT} {te:FE} {src:List (Option Nat)} {sd:Sd} {xs:List α} {k:α->Option D} (hi:fi sd=pure (xs.map g')) (hl:xs.length<=1000) (hf: ∀ x∈xs,Ev (zaT g tc te (zah src sd) (g' x)) (k x)):Ev (zav fi g tc te src sd) (.lst (xs.filterMap k)):=by
 unfold zav
 rw [hi]
 simp only [pure_bind]
 rw [zaz (by rw [qax];exact hl)]
 simp only [pure_bind]
 exact Ev.bind (zhc hf) (.of rfl)
theorem zod (j:Int) (r:Nat):zc9 j (r+1)= .int j::zc9 (j+1) r:=by
 unfold zc9
 rw [List.range_succ_eq_map,qaz,qaF]
 congr 1
 ·simp
 ·refine List.map_congr_left fun k _=> ?_
  simp
  omega
noncomputable def pD (p:Int×List Int):D:= .tup [.int p.1,tI p.2]
theorem zeC: ∀ ps:List (Int×List Int),zcJ (ps.map pD)=some ps
 | []=>rfl
 | p::r=>by
  rw [qaz,zcJ,zeC r]
  simp only [pD,tI,zc6,zdy,Option.map,Option.bind]
theorem zeR {ps:List (Int×List Int)} (h:ps≠[]):zk6 [.lst (ps.map pD)]=pure (pD (ps.getD (zbw ps) (0,[]))):=by
 have hb:=(zcH h).1
 have e:(ps.map pD)[zbw ps]? = some (pD (ps.getD (zbw ps) (0,[]))):=by simp [List.getD,hb]
 show (do let ps'<-ofO (zcJ (ps.map pD));ofO ((ps.map pD)[zbw ps']?):M D)=_
 rw [zeC]
 show (ofO ((ps.map pD)[zbw ps]?):M D)=_
 rw [e]
 rfl
theorem zrn (a b:Nat):Builtin.bitOr (a:Int) (b:Int)=((a ||| b:Nat):Int):=by
 unfold Builtin.bitOr Builtin.bitAnd Builtin.bitNot
 have h1:decide (0<= -(a:Int) - 1)=false:=by simp;omega
 have h2:decide (0<= -(b:Int) - 1)=false:=by simp;omega
 rw [h1,h2]
 simp only
 have e1:(-(-(a:Int) - 1) - 1).toNat=a:=by omega
 have e2:(-(-(b:Int) - 1) - 1).toNat=b:=by omega
 rw [e1,e2]
 omega
noncomputable def bv (p:Nat->Bool):Nat->Nat
 | 0=>0
 | n+1=>bv p n*2+(if p n=true then 1 else 0)
theorem zr0 (p q:Nat->Bool): ∀ n,bv p n ||| bv q n=bv (fun i=>p i || q i) n
 | 0=>by
  unfold bv
  rfl
 | n+1=>by
  have ih:=zr0 p q n
  unfold bv
  rw [<- ih]
  refine Nat.eq_of_testBit_eq fun i=> ?_
  cases i with
  | zero=>
   rw [Nat.testBit_or]
   simp only [Nat.testBit_zero]
   cases p n<;>cases q n<;>simp<;>omega
  | succ i=>
   rw [Nat.testBit_or]
   simp only [Nat.testBit_add_one]
   have e: ∀ (a:Nat) (c:Bool),(a*2+(if c=true then 1 else 0)) / 2=a:=fun a c=>by cases c<;>simp<;>omega
   rw [e,e,e,Nat.testBit_or]
theorem zlE (p:Nat->Bool): ∀ n,bv p n=bv (fun _=>true) n↔ ∀ i,i<n->p i=true
 | 0=>⟨fun _ i h=>by omega,fun _=>rfl⟩
 | n+1=>by
  have ih:=zlE p n
  unfold bv
  constructor
  ·intro h i hi
   cases hp:p n with
   | false=>rw [hp] at h;simp at h;omega
   | true=>
    rw [hp] at h
    simp at h
    by_cases e:i=n
    ·rw [e];exact hp
    ·exact ih.mp (by omega) i (by omega)
  ·intro h
   rw [h n (by omega),ih.mpr fun i hi=>h i (by omega)]
theorem zji {p q:Nat->Bool}: ∀ {n},(∀ i,i<n->p i=q i)->bv p n=bv q n
 | 0,_=>rfl
 | n+1,h=>by
  unfold bv
  rw [h n (by omega),zji fun i hi=>h i (by omega)]
theorem zmy (k:Int) (xs:List Int):dIn (.int k) (.lst (xs.map D.int))=pure (.bl (xs.any (· == k))):=by
 show zmH false (.int k) (.lst (xs.map D.int))=_
 unfold zmH
 simp only [pd]
 rw [zbN]
 have c:zmh (.int k) (xs.map PyData.int)=true:=by
  unfold zmh
  simp [PyData.canLay0,za3,PyData.depth,zbB]
 simp only [c,if_true,zer]
 rfl
theorem zoc (lo:Int) (k:Nat):zjx lo (k+1)= .int lo::zjx (lo - 1) k:=by
 unfold zjx
 rw [List.range_succ_eq_map,qaz,qaF]
 congr 1
 ·simp
 ·refine List.map_congr_left fun j _=> ?_
  simp
  omega
noncomputable def kl (n:Nat):Nat->List (List Int)
 | 0=>[[]]
 | r+1=>(kl n r).take 1++(kl n r).map (fun ls=>((n - (r+1):Nat):Int)::ls)++(kl n r).drop 1
theorem zd9 (n:Nat): ∀ (r:Nat) (x:List Int),r<=n->(x∈kl n r↔x.Pairwise (· < ·)/\ ∀ y∈x,((n - r:Nat):Int)<=y/\y<(n:Int))
 | 0,x,_=>by
  unfold kl
  rw [List.mem_singleton]
  constructor
  ·rintro rfl
   exact ⟨.nil,fun y hy=>by cases hy⟩
  ·rintro ⟨_,h⟩
   cases x with
   | nil=>rfl
   | cons y r=>have:=h y qan;omega
 | r+1,x,hr=>by
  have ih:=fun y=>zd9 n r y (by omega)
  have e:x∈kl n (r+1)↔x∈kl n r\/ ∃ y∈kl n r,((n - (r+1):Nat):Int)::y=x:=by
   have h0:x∈kl n r↔x∈(kl n r).take 1++(kl n r).drop 1:=by rw [List.take_append_drop]
   have h1:x∈kl n (r+1)↔x∈(kl n r).take 1++(kl n r).map (fun ls=>((n - (r+1):Nat):Int)::ls)++(kl n r).drop 1:=Iff.rfl
   rw [h0,h1]
   simp only [List.mem_append,List.mem_map]
   constructor
   ·rintro ((h | h) | h)
    ·exact .inl (.inl h)
    ·exact .inr h
    ·exact .inl (.inr h)
   ·rintro ((h | h) | h)
    ·exact .inl (.inl h)
    ·exact .inr h
    ·exact .inl (.inr h)
  rw [e,ih x]
  constructor
  ·rintro (⟨h1,h2⟩ | ⟨y,hy,rfl⟩)
   ·exact ⟨h1,fun y hy=>by have:=h2 y hy;omega⟩
   ·obtain ⟨g1,g2⟩:=(ih y).mp hy
    refine ⟨List.pairwise_cons.mpr ⟨fun a ha=> ?_,g1⟩,fun z hz=> ?_⟩
    ·have:=g2 a ha
     omega
    ·rcases List.mem_cons.mp hz with rfl | hz
     ·omega
     ·have:=g2 z hz
      omega
  ·rintro ⟨h1,h2⟩
   cases x with
   | nil=>exact .inl ⟨.nil,fun y hy=>by cases hy⟩
   | cons y ys=>
    rw [List.pairwise_cons] at h1
    have hy:=h2 y qan
    by_cases c:y=((n - (r+1):Nat):Int)
    ·refine .inr ⟨ys,(ih ys).mpr ⟨h1.2,fun z hz=> ?_⟩,by rw [c]⟩
     have h3:=h1.1 z hz
     have h4:=h2 z (qaj _ hz)
     omega
    ·refine .inl ⟨List.pairwise_cons.mpr h1,fun z hz=> ?_⟩
     have h4:=h2 z hz
     rcases List.mem_cons.mp hz with rfl | hz
     ·omega
     ·have h3:=h1.1 z hz
      omega
theorem ze0 (n:Nat): ∀ r,(kl n r).length=2^r
 | 0=>rfl
 | r+1=>by
  unfold kl
  rw [qao,qao,qax,List.length_take,List.length_drop,ze0 n r,Nat.pow_succ]
  have:=Nat.two_pow_pos r
  omega
noncomputable def pr (os:List (List Int×Int)) (ls:List Int):Int:=(ls.map fun i=>(os.getD i.toNat ([],0)).2).sum
noncomputable def zoR (os:List (List Int×Int)) (ls:List Int) (t:Nat):Bool:=ls.any fun i=>(os.getD i.toNat ([],0)).1.any (· == (t:Int))
noncomputable def cvB (m:Int) (os:List (List Int×Int)) (ls:List Int):Bool:=bv (zoR os ls) m.toNat==bv (fun _=>true) m.toNat
theorem zhT {m:Int} {os:List (List Int×Int)} {ls:List Int}:cvB m os ls=true↔ ∀ t:Int,0<=t->t<m-> ∃ i∈ls,t∈(os.getD i.toNat ([],0)).1:=by
 unfold cvB
 rw [beq_iff_eq,zlE]
 have key: ∀ t:Nat,zoR os ls t=true↔ ∃ i∈ls,(t:Int)∈(os.getD i.toNat ([],0)).1:=fun t=>by
  unfold zoR
  simp [List.any_eq_true]
 constructor
 ·intro h t t0 t1
  have:=(key t.toNat).mp (h t.toNat (by omega))
  rw [Int.toNat_of_nonneg t0] at this
  exact this
 ·intro h i hi
  exact (key i).mpr (h i (by omega) (by omega))
noncomputable def trD (m:Int) (os:List (List Int×Int)) (ls:List Int):D:= .tup [.int (pr os ls),tI ls,.int (bv (zoR os ls) m.toNat)]
theorem zlV {p:Nat->Bool} (h: ∀ i,p i=false): ∀ n,bv p n=0
 | 0=>rfl
 | n+1=>by
  unfold bv
  rw [zlV h n,h n]
  rfl
theorem zm7 (a b:Nat):((a:Int)==(b:Int))=(a==b):=by
 rw [Bool.eq_iff_iff,beq_iff_eq,beq_iff_eq]
 omega
section
variable {g g1 g':FS} {t:FT} {a:FE} {fs fi:FA} {gt:D->Sd->M Sd} {sd:Sd} {i:Nat} {h:Hh} {P:Out->Hh->Prop} {ds:List D} {d:D}
theorem zcR (q:wp (a sd) h fun d h'=>wp (g' (sd.set i (some d))) h' P):wp (zao (zbx i a) g' sd) h P:=by
 rw [zaY,zb6,bind_assoc,zaq]
 exact q
theorem zna {x:D} {xs:List D} (e:a sd=pure x) (e2:fs sd=pure xs):zac a fs sd=pure (x::xs):=by rw [zaJ,e,e2];rfl
theorem zge (e:fi sd=pure ds) (q:wp (zaS (fun x sd=>do let sd1<-gt x sd;g sd1) ds sd) h fun o h'=>wp (andThen o g') h' P):wp (zao (zih fi gt g) g' sd) h P:=by
 rw [zaY,zg5,e,pure_bind,zaq]
 exact q
theorem zmJ {F:List D->M D} {x:D} (e:a sd=pure x):zaC (zat 1 F) (zac a zar) sd=F [x]:=by rw [zbl,zaJ,e];rfl
theorem zqD {rs:List D} (e:fs sd=pure ds) (e2:zju ds=pure rs):zed fs sd=pure rs:=by rw [zhw,e,pure_bind,e2]
theorem zpO (q:wp (t sd) h fun c h'=>c=false/\P (.nx sd) h'):wp (sIf t g1 zfw sd) h P:=by
 rw [zgX,zaq]
 refine zhF q ?_
 rintro c h' ⟨rfl,q⟩
 exact ⟨_,_,rfl,q⟩
end
noncomputable def zmC (ps:List (Int×List Int)) (v:Int):Prop:=(∃ q∈ps,q.1=v)/\ ∀ q∈ps,v<=q.1
theorem zmC.uniq {ps:List (Int×List Int)} {v w:Int} (a:zmC ps v) (b:zmC ps w):v=w:=by
 obtain ⟨⟨q,hq,rfl⟩,h1⟩:=a
 obtain ⟨⟨r,hr,rfl⟩,h2⟩:=b
 have:=h1 r hr
 have:=h2 q hq
 omega
theorem zi9 {ps:List (Int×List Int)} (h:ps≠[]):zmC ps (ps.getD (zbw ps) (0,[])).1/\ps.getD (zbw ps) (0,[])∈ps:=by
 obtain ⟨h1,h2⟩:=zcH h
 have hm:ps.getD (zbw ps) (0,[])∈ps:=by simp [List.getD,h1]
 refine ⟨⟨⟨_,hm,rfl⟩,fun q hq=> ?_⟩,hm⟩
 have:=h2 q hq
 unfold pLt at this
 split at this
 ·omega
 ·rw [decide_eq_false_iff_not] at this
  omega
noncomputable def cvs (m:Int) (os:List (List Int×Int)):List (List Int):=(kl os.length os.length).filter (cvB m os)
theorem zln {m:Int} {os:List (List Int×Int)} {ls:List Int}:ls∈cvs m os↔(ls.Pairwise (· < ·)/\ ∀ y∈ls,0<=y/\y<(os.length:Int))/\cvB m os ls=true:=by
 unfold cvs
 rw [List.mem_filter,zd9 _ _ _ (qaG _)]
 simp
noncomputable def zmE (m:Int) (os:List (List Int×Int)):List (Int×List Int):=(cvs m os).map fun ls=>(pr os ls,ls)
noncomputable def wiL (m:Int) (os:List (List Int×Int)) (i:Int):List (Int×List Int):=(zmE m os).filter fun q=>q.2.any (· == i)
noncomputable def woL (m:Int) (os:List (List Int×Int)) (i:Int):List (Int×List Int):=(zmE m os).filter fun q=> !q.2.any (· == i)
theorem zeo {m:Int} {os:List (List Int×Int)} {q:Int×List Int}:q∈zmE m os↔q.2∈cvs m os/\q.1=pr os q.2:=by
 unfold zmE
 rw [List.mem_map]
 constructor
 ·rintro ⟨ls,h,rfl⟩
  exact ⟨h,rfl⟩
 ·rintro ⟨h,e⟩
  exact ⟨q.2,h,by rw [<- e]⟩
theorem zl1 {m:Int} {os:List (List Int×Int)} {i:Int} {q:Int×List Int}:q∈wiL m os i↔(q.2∈cvs m os/\q.1=pr os q.2)/\i∈q.2:=by
 unfold wiL
 rw [List.mem_filter,zeo]
 simp
theorem zoh {m:Int} {os:List (List Int×Int)} {i:Int} {q:Int×List Int}:q∈woL m os i↔(q.2∈cvs m os/\q.1=pr os q.2)/\i∉q.2:=by
 unfold woL
 rw [List.mem_filter,zeo,Bool.not_eq_true', <-Bool.not_eq_true,List.any_eq_true]
 refine and_congr_right fun _=>not_congr ⟨?_,?_⟩
 ·rintro ⟨x,hx,e⟩
  rw [beq_iff_eq] at e
  rw [<- e]
  exact hx
 ·intro h
  exact ⟨i,h,by simp⟩
end
section
theorem zl6 {ps qs:List (Int×List Int)} (h:ps≠[]) (hm: ∀ x,x∈ps↔x∈qs):ps.getD (zbw ps) (0,[])=qs.getD (zbw qs) (0,[]):=by
 have h':qs≠[]:=fun z=>by
  obtain ⟨x,hx⟩:=List.exists_mem_of_ne_nil ps h
  rw [hm x,z] at hx
  cases hx
 obtain ⟨a1,a2⟩:=zcH h
 obtain ⟨b1,b2⟩:=zcH h'
 have ma:ps.getD (zbw ps) (0,[])∈ps:=by simp [List.getD,a1]
 have mb:qs.getD (zbw qs) (0,[])∈qs:=by simp [List.getD,b1]
 exact ziR (b2 _ ((hm _).mp ma)) (a2 _ ((hm _).mpr mb))
noncomputable def zft (n b:Nat):List Nat:=(List.range n).filter fun i=>b / 2^i % 2==1
theorem zfN {n b:Nat} (h:b<2^n):zft (n+1) b=zft n b/\zft (n+1) (b+2^n)=zft n b++[n]:=by
 unfold zft
 rw [List.range_succ,List.filter_append,List.filter_append]
 have e1:b / 2^n=0:=Nat.div_eq_of_lt h
 have e2:(b+2^n) / 2^n=1:=by
  rw [Nat.add_div_right _ (Nat.two_pow_pos n),e1]
 constructor
 ·simp [e1]
 ·have e3:((List.range n).filter fun i=>(b+2^n) / 2^i % 2==1)=(List.range n).filter fun i=>b / 2^i % 2==1:=by
   refine List.filter_congr fun i hi=> ?_
   have hi:=List.mem_range.mp hi
   have e4:2^n=2^i*(2*2^(n - i - 1)):=by
    rw [<- Nat.mul_assoc,Nat.mul_comm (2^i) 2, <-Nat.pow_succ', <-Nat.pow_add]
    congr 1
    omega
   rw [e4,Nat.add_mul_div_left _ _ (Nat.two_pow_pos i),Nat.add_mul_mod_self_left]
  rw [e3]
  simp [e2]
theorem zeu: ∀ (n:Nat) (xs:List Int),xs.Pairwise (· < ·)->(∀ x∈xs,0<=x/\x<(n:Int))-> ∃ b,b<2^n/\(zft n b).map (fun (k:Nat)=>(k:Int))=xs
 | 0,xs,_,hb=>⟨0,by decide,by
   cases xs with
   | nil=>rfl
   | cons x r=>have:=hb x qan;omega⟩
 | n+1,xs,hu,hb=>by
  by_cases hl:xs.getLast? = some (n:Int)
  ·obtain ⟨ys,rfl⟩:=List.getLast?_eq_some_iff.mp hl
   rw [List.pairwise_append] at hu
   obtain ⟨b,hb1,hb2⟩:=zeu n ys hu.1 fun x hx=>⟨(hb x (List.mem_append_left _ hx)).1,hu.2.2 x hx n (by simp)⟩
   refine ⟨b+2^n,by rw [Nat.pow_succ];omega,?_⟩
   rw [(zfN hb1).2,List.map_append,hb2]
   rfl
  ·have hlt: ∀ x∈xs,0<=x/\x<(n:Int):=fun x hx=>by
    have h1:=hb x hx
    refine ⟨h1.1,?_⟩
    by_cases e:x=(n:Int)
    ·exfalso
     subst e
     obtain ⟨as,bs,rfl⟩:=List.append_of_mem hx
     cases bs with
     | nil=>simp at hl
     | cons y r=>
      have:=(List.pairwise_append.mp hu).2.1
      have h2:=(List.pairwise_cons.mp this).1 y qan
      have h3:=hb y (by simp)
      omega
    ·omega
   obtain ⟨b,hb1,hb2⟩:=zeu n xs hu hlt
   exact ⟨b,by rw [Nat.pow_succ];omega,by rw [(zfN hb1).1];exact hb2⟩
theorem zjp (n b:Nat):((zft n b).map fun (k:Nat)=>(k:Int)).Pairwise (· < ·):=by
 rw [List.pairwise_map]
 exact (List.pairwise_lt_range.filter _).imp fun z=>by omega
theorem ziC (n b:Nat): ∀ x∈(zft n b).map fun (k:Nat)=>(k:Int),0<=x/\x<(n:Int):=fun x hx=>by
 obtain ⟨k,hk,rfl⟩:=List.mem_map.mp hx
 have:=List.mem_range.mp (List.mem_filter.mp hk).1
 omega
noncomputable def zdM (n b:Nat):List Int:=(zft n b).map fun (k:Nat)=>(k:Int)
theorem zn5 (b i:Nat):((b:Int) / 2^i % 2==1)=(b / 2^i % 2==1):=by
 have e:(b:Int) / 2^i % 2=((b / 2^i % 2:Nat):Int):=by simp
 rw [e,Bool.eq_iff_iff,beq_iff_eq,beq_iff_eq]
 omega
theorem zjL: ∀ ps:List (Int×List Int),zgm zc6 (ps.map pD)=some ps:=fun ps=>by rw [zeT,zeC]
theorem zj8 {n:Nat} {h:Hh} {ps:List (Int×List Int)} {P:D->Hh->Prop} (e:h[n]? = some (.lst (ps.map pD))) (k:P (.lst ((TS.zeU pLt ps).map pD)) h):wp (ziz [.cel n]) h P:=by
 unfold ziz zmv zmc zlO
 simp only [zaq,zcL e,zam,zjL,zkI]
 exact k
theorem zjt {ps:List (Int×List Int)} (h:ps≠[]): ∃ r,TS.zeU pLt ps=ps.getD (zbw ps) (0,[])::r:=by
 obtain ⟨b1,b2⟩:=zcH h
 have hp:=TS.zcX pLt ps
 have hu:=TS.zet TS.ztz ps
 cases hs:TS.zeU pLt ps with
 | nil=>
  rw [hs] at hp
  exact absurd hp.symm.eq_nil h
 | cons x r=>
  have hu':(x::r).Pairwise TS.ztz.kle:=by rw [<- hs];exact hu
  have hx:x∈ps:=hp.mem_iff.mp (by rw [hs];exact qan ..)
  have hb:ps.getD (zbw ps) (0,[])∈ps:=by
   rw [List.getD_eq_getElem?_getD,List.getElem?_eq_getElem b1]
   exact List.getElem_mem b1
  have hb2:ps.getD (zbw ps) (0,[])∈x::r:=by rw [<- hs];exact hp.mem_iff.mpr hb
  have e:x=ps.getD (zbw ps) (0,[]):=by
   rcases List.mem_cons.mp hb2 with e | hr
   ·exact e.symm
   ·exact ziR (b2 x hx) ((List.pairwise_cons.mp hu').1 _ hr)
  exact ⟨r,by rw [e]⟩
theorem zsN:PyData.strOk "full"=true:=by decide +kernel
theorem zte {a b:FE} {sd:Sd} {F:D->D->M D} {x y z:D} (e:a sd=pure x) (e2:b sd=pure y) (e3:F x y=pure z):cOp F a b sd=pure z:=by rw [zdH,e,e2,pure_bind,pure_bind,e3]
noncomputable def Kp (N:Nat) (h h':Hh):Prop:=N<=h'.length/\ ∀ k,k<N->h'[k]? = h[k]?
theorem Kp.gro {h h':Hh} (k:Kp h.length h h'):Gro h h':=by
 refine ⟨h'.drop h.length,List.ext_getElem? fun j=> ?_⟩
 by_cases hj:j<h.length
 ·rw [qac hj,k.2 j hj]
 ·rw [qaa (by omega),List.getElem?_drop]
  congr 1
  omega
end
section
theorem zd3 (k:Int) (xs:List Int):zi5 (.int k) (.tup (xs.map D.int))=pure (.bl (!xs.any (· == k))):=by
 show zmH true (.int k) (.tup (xs.map D.int))=_
 unfold zmH
 simp only [pd]
 rw [zbN]
 have c:zmh (.int k) (xs.map PyData.int)=true:=by
  unfold zmh
  simp [PyData.canLay0,za3,PyData.depth,zbB]
 simp only [c,if_true,zer]
theorem zja {k:Int} {xs:List Int}:xs.any (· == k)=true↔k∈xs:=by
 rw [List.any_eq_true]
 constructor
 ·rintro ⟨x,hx,e⟩
  rw [beq_iff_eq] at e
  exact e▸hx
 ·intro h
  exact ⟨k,h,by simp⟩
end
section
theorem zhi {h:Hh}: ∀ xs:List Int,zj5 h (xs.map D.int)=some (xs.map PyData.int)
 | []=>by rw [List.map_nil,zj5];rfl
 | x::r=>by
  rw [qaz,zj5,zhi r,pdH]
  rfl
theorem zgg {h:Hh} (xs:List Int):pdH h (.lst (xs.map D.int))=some (.list (xs.map PyData.int)):=by
 rw [pdH,zhi]
 rfl
theorem ziM (xs ys:List Int):zew (.list (xs.map PyData.int)) (.list (ys.map PyData.int))=true:=by
 unfold zew
 simp [PyData.canLay0,za3,PyData.depth,zbB]
theorem znN (xs ys:List Int):zke (.lst (xs.map D.int)) (.lst (ys.map D.int))=pure (.bl (xs==ys)):=by
 funext h
 unfold zke
 rw [zgg,zgg]
 simp only [ziM,if_true,PyData.eqv,zej]
 rfl
theorem zso {i j:Int}:zke (.int i) (.int j)=pure (.bl (i==j)):=by
 funext h
 unfold zke
 have c:zew (.int i) (.int j)=true:=by unfold zew;simp [PyData.canLay0,PyData.depth]
 simp only [pdH,c,if_true,PyData.eqv]
 rfl
theorem zuW {i j:Int}:zkd (.int i) (.int j)=pure (.bl (!(i==j))):=by
 funext h
 unfold zkd
 have c:zew (.int i) (.int j)=true:=by unfold zew;simp [PyData.canLay0,PyData.depth]
 simp only [pdH,c,if_true,PyData.eqv]
 rfl
theorem zqR {x:Str} (hx:PyData.strOk x=true):zke (.str x) (.str x)=pure (.bl true):=by
 funext h
 unfold zke
 have c:zew (.str x) (.str x)=true:=by unfold zew;simp [PyData.canLay0,PyData.depth,hx]
 simp only [pdH,c,if_true,PyData.eqv,beq_self_eq_true]
 rfl
theorem zqF:PyData.strOk "offer"=true:=by decide +kernel
theorem zpB:zkd (.lst [.str "offer",.str "offer",.str "offer",.str "offer"]) (.lst [.str "offer",.str "offer",.str "offer",.str "offer"])=pure (.bl false):=by
 funext h
 unfold zkd
 have c:zew (.list [.str "offer",.str "offer",.str "offer",.str "offer"]) (.list [.str "offer",.str "offer",.str "offer",.str "offer"])=true:=by unfold zew;simp [PyData.canLay0,PyData.canLayAll0,PyData.depth,PyData.depthAll,zqF]
 simp only [pdH,zj5,Option.map,c,if_true,PyData.eqv,PyData.eqvAll,beq_self_eq_true]
 rfl
theorem zoC {n:Nat} {h:Hh} {ds:List D} {P:D->Hh->Prop} (e:h[n]? = some (.lst ds)) (k:P (.bl true) h):wp (zhE "list" (.cel n)) h P:=by
 have eb:isB "list" "list"=true:=by decide
 show wp (do let t<-(do let _<-zaj n;pure "list");pure (.bl (isB "list" t)):M D) h P
 simp only [bind_assoc,pure_bind,zaq,zcL e,zam,eb]
 exact k
theorem zjb {h:Hh} {n:Nat} {xs:List Int} {P:D->Hh->Prop} (e:h[n]? = some (.lst (xs.map D.int))) (k:P (.bl false) h):wp (zkd (.cel n) (.lst (xs.map D.int))) h P:=by
 refine ⟨.bl false,h,?_,k⟩
 unfold zkd
 have a:pdH h (.cel n)=some (.list (xs.map PyData.int)):=by
  rw [pdH,e]
  show (pdL (xs.map D.int)).map PyData.list=_
  rw [zbN]
  rfl
 rw [a,zgg]
 simp only [ziM,if_true,PyData.eqv,zej,beq_self_eq_true,Bool.not_true]
theorem ziA {fi:FA} {g:D->Sd->M Sd} {tc:FT} {te:FE} {src:List (Option Nat)} {sd:Sd} {ds:List D} (e:zav fi g tc te src sd=pure (.lst ds)):zeA fi g tc te src sd=za2 ds:=by
 have e1:zav fi g tc te src sd=(do let ys<-(do let xs<-fi sd;fits xs.length;zbt (zaT g tc te (zah src sd)) xs);pure (.lst ys)):=by
  unfold zav
  simp only [bind_assoc]
 have e2:zeA fi g tc te src sd=(do let ys<-(do let xs<-fi sd;fits xs.length;zbt (zaT g tc te (zah src sd)) xs);za2 ys):=by
  unfold zeA
  simp only [bind_assoc]
 rw [e1] at e
 rw [e2]
 generalize (do let xs<-fi sd;fits xs.length;zbt (zaT g tc te (zah src sd)) xs:M (List D))=X at e
 funext h
 have eh:=congrFun e h
 have b1:(X>>=fun ys=>(pure (.lst ys):M D)) h=match X h with | .ok ys h'=> .ok (.lst ys) h' | .exc c h'=> .exc c h' | .bad=> .bad:=by
  show M.bind X _ h=_
  unfold M.bind
  cases X h<;>rfl
 rw [b1] at eh
 show M.bind X _ h=_
 unfold M.bind
 cases hx:X h with
 | ok ys h'=>
  rw [hx] at eh
  cases eh
  rfl
 | _=>rw [hx] at eh;cases eh
theorem zmC.congr {ps qs:List (Int×List Int)} {v:Int} (a:zmC ps v) (h: ∀ q,q∈ps↔q∈qs):zmC qs v:=by
 obtain ⟨⟨q,hq,e⟩,h1⟩:=a
 exact ⟨⟨q,(h q).mp hq,e⟩,fun r hr=>h1 r ((h r).mpr hr)⟩
theorem zi3 {l:List (Int×List Int)} {p:Int×List Int->Bool} (hu:l.Pairwise fun a b=>a.1<=b.1) {q:Int×List Int} {r:List (Int×List Int)} (e:l.filter p=q::r):zmC (l.filter p) q.1:=by
 have hu2:=hu.filter p
 rw [e] at hu2 ⊢
 refine ⟨⟨q,qan,rfl⟩,fun x hx=> ?_⟩
 rcases List.mem_cons.mp hx with rfl | w
 ·exact Int.le_refl _
 ·exact (List.pairwise_cons.mp hu2).1 x w
theorem znV (l:List (Int×List Int)):(TS.zeU pLt l).Pairwise fun a b=>a.1<=b.1:=by
 have hu:=TS.zet TS.ztz l
 refine List.Pairwise.imp ?_ hu
 intro a b h
 have h:pLt b a=false:=h
 unfold pLt at h
 split at h
 ·omega
 ·rw [decide_eq_false_iff_not] at h
  omega
theorem zd6 {α:Type} [DecidableEq α]: ∀ {fm ms:List α},fm.Nodup->(∀ k,k∈fm->k∈ms)->ms.length<=fm.length->List.Perm ms fm
 | [],ms,_,_,h=>by
  have:ms=[]:=List.length_eq_zero_iff.mp (by simpa using h)
  subst this
  exact .rfl
 | x::r,ms,nd,hm,h=>by
  obtain ⟨n1,n2⟩:=List.nodup_cons.mp nd
  have hx:=hm x (.head _)
  have p:=List.perm_cons_erase hx
  have hl:=p.length_eq
  rw [qav] at hl h
  refine p.trans ((zd6 n2 (fun k hk=> ?_) (by omega)).cons x)
  have hne:k≠x:=fun e=>n1 (e▸hk)
  rcases List.mem_cons.mp (p.mem_iff.mp (hm k (.tail _ hk))) with e | e
  ·exact absurd e hne
  ·exact e
theorem ziF (n:Nat): ∀ r,r<=n->(kl n r).Nodup
 | 0,_=>by unfold kl;exact List.nodup_cons.mpr ⟨qaw,List.nodup_nil⟩
 | r+1,h=>by
  have ih:=ziF n r (by omega)
  have hp:(kl n (r+1)).Perm ((kl n r).map (fun ls=>((n - (r+1):Nat):Int)::ls)++kl n r):=by
   show ((kl n r).take 1++(kl n r).map (fun ls=>((n - (r+1):Nat):Int)::ls)++(kl n r).drop 1).Perm _
   refine (List.Perm.append_right _ List.perm_append_comm).trans ?_
   rw [List.append_assoc,List.take_append_drop]
  rw [hp.nodup_iff,List.nodup_append]
  refine ⟨?_,ih,?_⟩
  ·unfold List.Nodup
   rw [List.pairwise_map]
   exact ih.imp fun hne z=>hne (by injection z)
  ·intro a ha b hb e
   subst e
   obtain ⟨ls,_,rfl⟩:=List.mem_map.mp ha
   have:=((zd9 n r _ (by omega)).mp hb).2 _ qan
   omega
theorem zlC (n:Nat):((List.range (2^n)).map (zdM n)).Perm (kl n n):=by
 refine zd6 (ziF n n (qaG _)) (fun ls h=> ?_) (by rw [qax,List.length_range,ze0];exact qaG _)
 obtain ⟨h1,h2⟩:=(zd9 n n ls (qaG _)).mp h
 obtain ⟨b,hb1,hb2⟩:=zeu n ls h1 (fun y hy=>by have:=h2 y hy;simpa using this)
 exact List.mem_map.mpr ⟨b,List.mem_range.mpr hb1,hb2⟩
end
end L3
namespace K82
open PySem PySem.Spec PyProof.Rows L2 L3 LT
set_option hygiene false in
local macro_rules | `(tactic| ac_nf0)=> `(tactic| simp only [zaY,zb6,zoZ,zck,zgX,zg5,zie,zeG,zbl,zaJ,za8,zdH,zmP,zgA,zaP,za5,pure_bind,bind_assoc,zg0,zu5,zhe,zup,List.set,zfR,ziV,ziw,zsX,zo8,zkZ,zun,zls,ztT,zlu,ziX,zgk,zde,zis,zbV,zlS,zfh,zt6,zsu,zrh,ztZ,zkI,zsz,zsq,zsU,zu3,zsh,zhw,zcE,zkm,zjl,zl8,zoD,zr1,zaq,zam,zeW,qav,List.length_nil,qax,Nat.zero_add,Nat.reduceAdd,Nat.reduceLeDiff,zaz,zcF,tI,zkr,zo0,znv,zst,znq,zjC,znO,zuh,zp0,zp1,ztp,zuH,ztJ,zuT,zsp,zoB,zto,zve,zuJ,zvM,if_true,Bool.not_true,Bool.not_false,qaq,if_false,qao,List.cons_append,List.nil_append,zrp,zrA])
variable {m:Int} {os:List (List Int×Int)} {i:Nat}
theorem zct {h:Hh} {b:Nat} {m:Int} {P:D->Hh->Prop} (q:Bx b h) (h0:0<m) (h1:m<2^100) (k: ∀ t h',0<=t->t<m->Ext b h h'->P (.int t) h'):wp (F_31 [.cel b,.int m]) h P:=by
 obtain ⟨z,e⟩:=id q
 rw [d_31]
 have e2:ixN ([D.int z]:List D).length 0=some 0:=rfl
 simp only [G_31,zaY,zoZ,zbl,zaJ,za8,zdH,zaP,za5,pure_bind,bind_assoc,zgA,zuY,zaq,zcL e,zrh,zkI,zam,zjY h0 h1,zkm,zjl,zcE,zl8,zg0,List.set,zpH,zrb,e2,zfM,zck,zhe]
 exact k _ _ (Int.emod_nonneg _ (by omega)) (Int.emod_lt_of_pos _ h0) q.set
theorem zpv {ns:List Int} {k:Int} (h0:0<=k) (h1:k<6) (hb: ∀ i∈ns,Builtin.Int.intBits i<=2^20): ∃ c:Int,F_28 [.scr (ns.map D.int),.int k]=pure (.int c)/\Builtin.Int.intBits c<=2^20:=by
 rw [d_28]
 simp only [G_28,zaY,zgX,zfR,za5,zaP,pure_bind,bind_assoc,zbl,zaJ,za8,zoP,zr9,zde]
 by_cases hk:k<((ns.map D.int).length:Int)
 ·have hk':k.toNat<ns.length:=by simp at hk;omega
  have ea:atI (ns.map D.int) k=some (.int ns[k.toNat]):=by
   have:=zgr (xs:=ns.map D.int) (j:=k.toNat) (v:= .int ns[k.toNat]) (by simp [hk'])
   rw [<- this]
   congr 1
   omega
  simp only [hk,decide_true,if_true,zck,zdH,zaP,za5,pure_bind,zuq,ea,zkI,zu5,zhe]
  exact ⟨_,rfl,hb _ (List.getElem_mem hk')⟩
 ·simp only [hk,decide_false,qaq,if_false,zeG,pure_bind,zg0,zck,zdH,zgA,za5,zaP,zsd (show (-1000000000000000:Int)<6151 by decide) (show (6151:Int)<1000000000000000 by decide),zfh,zhe]
  exact ⟨_,rfl,qaE (intBits_le_64 (by omega) (by omega)) (by decide)⟩
theorem zsg {c k:Int} (hc:Builtin.Int.intBits c<=2^20) (k0:0<=k) (k1:k<24): ∃ r:Int,F_29 [.int c,.int k]=pure (.int r):=by
 rw [d_29]
 have hm:zhu ((c+1)*40692+104729*k) ((c+1)*40692+104729*k)=true:=by
  have:=znr hc k0 k1
  unfold zhu
  rw [qau]
  have e1:(2:Nat)^20=1048576:=rfl
  have e2:(2:Nat)^26=67108864:=rfl
  rw [e1] at this
  rw [e2]
  omega
 have n0:=Int.emod_nonneg (((c+1)*40692+104729*k)*((c+1)*40692+104729*k)) (show (2147483399:Int)≠0 by decide)
 have n1:=Int.emod_lt_of_pos (((c+1)*40692+104729*k)*((c+1)*40692+104729*k)) (show (0:Int)<2147483399 by decide)
 simp only [G_29,zaY,zb6,zdH,zaP,za5,zgA,zfh,pure_bind,bind_assoc,zmj (show (-1000000000000000:Int)<40692 by decide) (show (40692:Int)<1000000000000000 by decide),zle (show (-1000000000000000:Int)<104729 by decide) (show (104729:Int)<1000000000000000 by decide),
   zg0,List.set,zgo (show (za0 ((c+1)*40692+104729*k) || za0 ((c+1)*40692+104729*k) || zhu ((c+1)*40692+104729*k) ((c+1)*40692+104729*k))=true by rw [hm];simp),zgs (show (0:Int)<2147483399 by decide),zck]
 generalize hN:((c+1)*40692+104729*k)*((c+1)*40692+104729*k) % 2147483399=N at n0 n1
 simp only [zle (i:=N+k) (show -1000000000000000<N+k by omega) (show N+k<1000000000000000 by omega),pure_bind,zgs (show (0:Int)<2147483563 by decide),zhe]
 exact ⟨_,rfl⟩
theorem ziU {s0 s1:Option D} {c:Int} (hc:Builtin.Int.intBits c<=2^20): ∀ (ds:List D) (n:Int) (x4:Option D),(∀ d∈ds, ∃ j:Int,d= .int j/\0<=j/\j<24)->
  ∃ (n':Int) (x4':Option D),zaS (fun x sd=>do let sd1<-zaB 4 x sd;zcK sd1) ds [s0,s1,some (.int c),some (.int n),x4]=pure (.nx [s0,s1,some (.int c),some (.int n'),x4'])
 | [],n,x4,_=>⟨n,x4,rfl⟩
 | d::r,n,x4,hd=>by
  obtain ⟨j,rfl,j0,j1⟩:=hd _ qan
  obtain ⟨mx,em⟩:=zsg hc j0 j1
  obtain ⟨n',x4',ih⟩:=ziU hc r (n*2147483647+mx) (some (.int j)) (fun y hy=>hd y (qaj _ hy))
  refine ⟨n',x4',?_⟩
  rw [zbC, <-ih]
  simp only [zcK,zcE,List.set,pure_bind,bind_assoc,zb6,zdH,za5,zaP,zgA,zmj (i:=n) (show (-1000000000000000:Int)<2147483647 by decide) (show (2147483647:Int)<1000000000000000 by decide),zbl,zaJ,za8,zbV,em,zfh]
theorem zrm {h:Hh} {ns:List Int} {k:Int} {P:D->Hh->Prop} (hb: ∀ i∈ns,Builtin.Int.intBits i<=2^20) (k0:0<=k) (k6:k<6) (q: ∀ z:Int,P (.cel h.length) (h++[.lst [.int z]])):wp (F_30 [.scr (ns.map D.int),.int k]) h P:=by
 obtain ⟨c,ec,hc⟩:=zpv k0 k6 hb
 rw [d_30]
 simp only [G_30,zaY,zb6,zbl,zaJ,za8,zaP,za5,pure_bind,bind_assoc,zbV,ec,zg0,List.set,zgX,zfR,zdH,zgA,zgs (show (0:Int)<2 by decide),zqV,zde]
 by_cases hc2:(c % 2==0)=true
 ·simp only [hc2,if_true,zck,zgk,zaJ,za8,zdH,za5,zaP,zgA,pure_bind,bind_assoc,znd (show (0:Int)<2 by decide) (show (2:Int)<2^64 by decide),qav,List.length_nil,zaz (show 0+1<=1000 by decide),zaq,zeW,zam,zu5,zhe]
  exact q _
 ·obtain ⟨n',x4',el⟩:=ziU (s0:=some (.scr (ns.map D.int))) (s1:=some (.int k)) hc (zc9 0 24) 0 none (fun d hd=>by
    obtain ⟨i,e,i0,i1⟩:=zmt hd
    exact ⟨i,e,i0,by omega⟩)
  have er:zju [.int 24]=pure (zc9 0 24):=zbc (by decide) (by decide)
  simp only [hc2,if_false,zeG,pure_bind,zg0,zaY,zb6,zgA,List.set,za5,zaP,zg5,zhw,zaJ,za8,er,bind_assoc,el,zck,zgk,qav,List.length_nil,zaz (show 0+1<=1000 by decide),zaq,zeW,zam,zhe,qaq]
  exact q _
theorem zh6 (xs:List Int):dEq (.lst (xs.map D.int)) (.lst [])=pure (.bl xs.isEmpty):=by
 have:=zqy xs []
 rw [List.map_nil] at this
 rw [this]
 cases xs<;>rfl
noncomputable def Go (m:Int) (o:List Int×Int):Prop:=o.1.Pairwise (· < ·)/\(∀ x∈o.1,0<=x/\x<m)/\o.1≠[]/\0<o.2
theorem zjQ {b:Nat} {full:Int} (i:Int) {h:Hh} {Q:Option D->Hh->Prop} (q:Bx b h) (k: ∀ o h',Ext b h h'->(o=none\/o=some (.int i))->Q o h'):
  wp (zaT (zaB 0) zcg zcd [none,some (.cel b),some (.int full)] (.int i)) h Q:=by
 simp only [zaT,zcE,List.set,pure_bind,zcg,zfR,zbl,zaJ,za8,za5,zaP,zgA,bind_assoc,zbV,zaq]
 refine zct q (by decide) (by decide) fun t h2 t0 t1 x2=> ?_
 simp only [zvB,zam,zde]
 rw [zaE]
 split
 ·simp only [zcd,zaP,pure_bind,zam]
  exact k _ _ x2 (.inr rfl)
 ·rw [zam]
  exact k _ _ x2 (.inl rfl)
theorem zfI {b n:Nat} {m kind full:Int} {s1 s2:Option D} {N:Nat} (hN:N<=12) (hnb:n≠b) (m0:1<=m) (m1:m<=10) (k0:0<kind) (k1:kind<2^100): ∀ (ds:List D) {h:Hh} {x7 x8:Option D} {os:List (List Int×Int)} {P:Out->Hh->Prop},Bx b h->h[n]? = some (.lst (os.map zcF))->(∀ o∈os,Go m o)->os.length+ds.length<=N->
  (∀ (x7' x8':Option D) (os':List (List Int×Int)) (h':Hh),Bx b h'->h'[n]? = some (.lst (os'.map zcF))->(∀ o∈os',Go m o)->os'.length<=N->P (.nx [some (.cel b),s1,s2,some (.int m),some (.int kind),some (.int full),some (.cel n),x7',x8']) h')->
  wp (zaS (fun x sd=>do let sd1<-zaB 7 x sd;zbb sd1) ds [some (.cel b),s1,s2,some (.int m),some (.int kind),some (.int full),some (.cel n),x7,x8]) h P
 | [],h,x7,x8,os,P,q,e,ho,hl,k=>by
  rw [zb4,zam]
  exact k _ _ os h q e ho (by simpa using hl)
 | d::r,h,x7,x8,os,P,q,e,ho,hl,k=>by
  have ih: ∀ {h:Hh} {x7 x8:Option D} {os:List (List Int×Int)},Bx b h->h[n]? = some (.lst (os.map zcF))->(∀ o∈os,Go m o)->os.length+r.length<=N->
   wp (zaS (fun x sd=>do let sd1<-zaB 7 x sd;zbb sd1) r [some (.cel b),s1,s2,some (.int m),some (.int kind),some (.int full),some (.cel n),x7,x8]) h P:=fun q e ho hl=>zfI hN hnb m0 m1 k0 k1 r q e ho hl k
  rw [zbC]
  generalize zaS (fun x sd=>do let sd1<-zaB 7 x sd;zbb sd1) r=rest at ih ⊢
  have eb:zah [none,some 0,some 5] [some (.cel b),s1,s2,some (.int m),some (.int kind),some (.int full),some (.cel n),some d,x8]=[none,some (D.cel b),some (.int full)]:=rfl
  simp only [zcE,List.set,pure_bind,zbb,zaY,zb6,zaq]
  unfold zav
  simp only [zhw,zaJ,za8,za5,zaP,pure_bind,zbc (show 0<=m by omega) (show m<1000 by omega),zaq,zmz,zaz (show m.toNat<=1000 by omega),zam,eb]
  rw [zbr]
  refine zlj (fun i {h Q} q k=>zjQ i q k) _ q fun ys h2 x2 hys=> ?_
  have hyu:=(zbQ m.toNat).sublist hys
  have hyb: ∀ x∈ys,0<=x/\x<m:=fun x hx=>by have:=zcj x (hys.subset hx);omega
  have fin: ∀ (zs:List Int) (h3:Hh),(zs.Pairwise (· < ·)/\(∀ x∈zs,0<=x/\x<m)/\zs≠[])->Ext b h h3->wp ((zcv (zag 6) (ze9 (zac (zaC zc5 (zac (zag 8) zar)) (zac (cOp zdZ (cK (.int 1)) (zaC (zat 2 F_31) (zac (zag 0) (zac (zag 4) zar)))) zar)))) [some (.cel b),s1,s2,some (.int m),some (.int kind),some (.int full),some (.cel n),some d,some (.lst (zs.map D.int))]) h3
    fun _ h4=>wp (rest [some (.cel b),s1,s2,some (.int m),some (.int kind),some (.int full),some (.cel n),some d,some (.lst (zs.map D.int))]) h4 P:=fun zs h3 hz x3=>by
   have e3:=x3.2 n _ hnb e
   simp only [zcv,zdb,za5,zaP,pure_bind,bind_assoc,zaq,zcL e3,zlu,zaJ,za8,zbl,zoD,zdH,zgA,zbV,zam]
   refine zct x3.1 k0 k1 fun t h4 t0 t1 x4=> ?_
   have e4:=x4.2 n _ hnb e3
   simp only [zfh,pure_bind,zam,zaq,qav,List.length_nil,zaz (show 0+1+1<=1000 by decide),zcb,zcL e4,qax,zaz (show os.length+1<=1000 by simp at hl;omega),zfM]
   have hlt:n<h4.length:=(qab.mp e4).1
   refine ih (os:=os++[(zs,1+t)]) ?_ (by rw [qaf hlt];simp [zcF,tI]) ?_ ?_
   ·obtain ⟨y,ey⟩:=x4.1
    exact ⟨y,by rw [qak hnb];exact ey⟩
   ·intro o hmem
    rcases List.mem_append.mp hmem with w | w
    ·exact ho o w
    ·simp at w
     subst w
     exact ⟨hz.1,hz.2.1,hz.2.2,by show (0:Int)<1+t;omega⟩
   ·simp at hl ⊢
    omega
  simp only [zam,zg0,List.set,zaY,zgX,zfR,za5,zaP,pure_bind,ziX,za8,List.length_nil,zaz (show 0<=1000 by decide),zh6,zde,bind_assoc,zaq]
  rw [zaE]
  split
  ·simp only [zb6,ziX,zaJ,za8,zbl,za5,zaP,pure_bind,bind_assoc,zbV,zaq]
   refine zct x2.1 (by omega) (by omega) fun t h3 t0 t1 x3=> ?_
   simp only [zam,pure_bind,zaq,qav,List.length_nil,zaz (show 0+1<=1000 by decide),List.set,zg0,zie]
   exact zhF (fin [t] h3 ⟨by simp,by simp;omega,by simp⟩ (x2.trans x3)) fun _ _ z=>z
  ·rename_i hne
   simp only [zeG,zam,zg0,zie,zaq]
   exact zhF (fin ys h2 ⟨hyu,hyb,fun z=>hne (by rw [z];rfl)⟩ x2) fun _ _ z=>z
theorem zof {h:Hh} {b:Nat} {mt mo:Int} {P:D->Hh->Prop} (q:Bx b h) (t0:1<=mt) (t1:mt<=10) (o0:0<=mo) (o1:mo<=12) (k: ∀ (m:Int) (os:List (List Int×Int)) h',Bx b h'->1<=m->m<=mt->(os.length:Int)<=mo->(∀ o∈os,Go m o)->P (zaR m os) h'):wp (F_32 [.cel b,.int mt,.int mo]) h P:=by
 rw [d_32]
 simp only [G_32,zaY,zb6,zdH,zgA,zbl,zaJ,za8,zaP,za5,pure_bind,bind_assoc,zbV,zaq]
 refine zct q (by omega) (by omega) fun t h2 t0' t1' x2=> ?_
 simp only [zfh,pure_bind,zam,zg0,List.set,zaY,zb6,zdH,ziX,zaJ,za8,zgA,zrI,bind_assoc,zaq,qav,List.length_nil,zaz (show 0+1+1+1+1<=1000 by decide),zbl,zaP,za5,zbV]
 refine zct x2.1 (by decide) (by decide) fun f h3 f0 f1 x3=> ?_
 obtain ⟨kind,ef,g0,g1⟩: ∃ kind:Int,atI [D.int 1,.int 3,.int 20,.int 100000000000000000000] f=some (.int kind)/\0<kind/\kind<2^100:=by
  have:f=0\/f=1\/f=2\/f=3:=by omega
  rcases this with rfl | rfl | rfl | rfl
  ·exact ⟨1,rfl,by decide,by decide⟩
  ·exact ⟨3,rfl,by decide,by decide⟩
  ·exact ⟨20,rfl,by decide,by decide⟩
  ·exact ⟨100000000000000000000,rfl,by decide,by decide⟩
 simp only [zsu,ef,zkI,zam,zg0,List.set,zaY,zb6,zbl,zaJ,za8,zaP,zgA,pure_bind,bind_assoc,zbV,zaq]
 refine zct x3.1 (by decide) (by decide) fun full h4 u0 u1 x4=> ?_
 simp only [zam,zg0,List.set,zaY,zb6,zgk,za8,pure_bind,List.length_nil,zaz (show 0<=1000 by decide),zaq,zeW,zg5,zhw,zaJ,zbl,zdH,za5,zaP,zgA,zfh,bind_assoc,zbV]
 have x5:=x4.1.push (c:= .lst [])
 have hnb:h4.length≠b:=fun z=>by
  obtain ⟨y,ey⟩:=x4.1
  have:=(qab.mp ey).1
  omega
 refine zct x5.1 (by omega) (by omega) fun turns h6 v0 v1 x6=> ?_
 have e6:h6[h4.length]? = some (.lst []):=x6.2 _ _ hnb (by simp)
 simp only [zam,pure_bind,zbc v0 (show turns<1000 by omega),zaq]
 refine zfI (N:=mo.toNat) (by omega) hnb (by omega) (by omega) g0 g1 _ x6.1 (os:=[]) e6 (fun o ho=>by cases ho) (by rw [zmz];simp;omega) fun x7 x8 os h7 q7 e7 ho hl=> ?_
 simp only [zg0,zck,zlu,zaJ,za8,za5,zaP,pure_bind,bind_assoc,zbl,zsB,zaq,zcL e7,zam,qav,List.length_nil,zaz (show 0+1+1<=1000 by decide),zhe]
 exact k (1+t) os h7 q7 (by omega) (by omega) (by omega) ho
theorem zjs {n:Nat} {s0:Option D}: ∀ (os:List (List Int×Int)) {h:Hh} {xs:List Int} {x2:Option D} {P:Out->Hh->Prop},h[n]? = some (.lst (xs.map D.int))->xs.length+(os.flatMap (·.1)).length<=1000->
  (∀ x2' h',(∀ k,k≠n->h'[k]? = h[k]?)->h'.length=h.length->h'[n]? = some (.lst ((xs++os.flatMap (·.1)).map D.int))->P (.nx [s0,some (.cel n),x2']) h')->
  wp (zaS (fun x sd=>do let sd1<-zaB 2 x sd;zaW sd1) (os.map zcF) [s0,some (.cel n),x2]) h P
 | [],h,xs,x2,P,e,_,k=>by
  rw [List.map_nil,zb4,zam]
  exact k x2 h (fun _ _=>rfl) rfl (by simpa using e)
 | o::os,h,xs,x2,P,e,hl,k=>by
  have hln:=(qab.mp e).1
  rw [List.flatMap_cons,qao] at hl
  have ih:=fun (x2':Option D)=>zjs (s0:=s0) (n:=n) os (h:=h.set n (.lst ((xs++o.1).map D.int))) (xs:=xs++o.1) (x2:=x2') (P:=P) (qaf hln) (by rw [qao];omega) fun x2'' h' h1 h2 h3=>k x2'' h' (fun j hj=>(h1 j hj).trans (qak (Ne.symm hj))) (h2.trans (qay ..)) (by rw [h3,List.flatMap_cons,List.append_assoc])
  rw [qaz,zbC]
  generalize zaS (fun x sd=>do let sd1<-zaB 2 x sd;zaW sd1) (os.map zcF)=rest at ih ⊢
  have f:=zaz (show (xs.map D.int).length+(o.1.map D.int).length<=1000 by rw [qax,qax];omega)
  simp only [qax] at f
  simp only [zaW]
  ac_nf0
  simp only [zaq,zcL e,zam,qax,f,zfM, <-List.map_append]
  exact ih _
theorem ztc {d:D} {os:List (List Int×Int)} {m:Int} (hd:ze4 d=pure (os.map zcF)) (m0:0<=m) (m1:m<=60) (hl:(os.flatMap (·.1)).length<=1000) (b: ∀ o∈os, ∀ x∈o.1,0<=x/\x<m):Ev (F_17 [d]) (tI (zfm (os.flatMap (·.1)))):=by
 refine .of_wp fun h=> ?_
 rw [d_17]
 simp only [G_17]
 ac_nf0
 simp only [hd,zam]
 refine zjs os (xs:=[]) (by simp) (by simpa using hl) fun x2 h' h1 h2 h3=> ?_
 ac_nf0
 have bb: ∀ x∈os.flatMap (·.1),0<=x/\x<m:=fun x hx=>by
  obtain ⟨o,ho,hx⟩:=List.mem_flatMap.mp hx
  exact b o ho x hx
 refine zg4 (by simpa using h3) (zib m0 m1 bb) (by omega) ?_
 ac_nf0
 refine ⟨trivial,⟨[.lst ((os.flatMap (·.1)).map D.int)],List.ext_getElem? fun j=> ?_⟩⟩
 by_cases hj:j=h.length
 ·subst hj
  rw [h3]
  simp
 ·rw [h1 j hj]
  by_cases hlt:j<h.length
  ·rw [qac hlt,qac hlt]
  ·rw [List.getElem?_eq_none (by simp;omega),List.getElem?_eq_none (by simp;omega)]
theorem ziW {os:List (List Int×Int)} {n:Nat} (h: ∀ o∈os,o.1.length<=n):(os.flatMap (·.1)).length<=os.length*n:=by
 induction os with
 | nil=>simp
 | cons o r ih=>
  rw [List.flatMap_cons,qao,qav,Nat.succ_mul]
  have a1:=h o qan
  have a2:=ih fun x hx=>h x (qaj _ hx)
  omega
theorem zre (s:Stk m os) {d:D} {os':List (List Int×Int)} (hd:ze4 d=pure (os'.map zcF)) (hl:os'.length<=12) (hs: ∀ o∈os',o∈os):Ev (F_18 [zaR m os,d]) (.bl (((zfm (os'.flatMap (·.1))).length:Int)==m)):=by
 have tg:=ztc hd (m:=m) (by have:=s.m0;omega) (by have:=s.m1;omega) (by have:=ziW (os:=os') (n:=10) fun o ho=>s.olen o (hs o ho);omega) fun o ho=>s.bd o (hs o ho)
 refine .of_wp fun h=> ?_
 rw [d_18]
 simp only [G_18,zaR]
 ac_nf0
 refine tg.wp fun h' g=> ?_
 ac_nf0
 rw [zqV]
 ac_nf0
 exact ⟨trivial,g⟩
noncomputable def zj2 (t:Int) (o:List Int×Int):Bool:=o.1.any (· == t)
noncomputable def zaQ (m:Int) (os:List (List Int×Int)):List Int:=((List.range m.toNat).map fun (k:Nat)=>(k:Int)).filter fun t=>(os.filter (zj2 t)).isEmpty
theorem zow {m:Int} {os:List (List Int×Int)} (m0:1<=m) (m1:m<=10) (hl:os.length<=12) (h: ∀ o∈os,Go m o):Stk m os:=
 ⟨m0,m1,hl,fun o ho=>(h o ho).1,fun o ho=>(h o ho).2.1,fun o ho=>(h o ho).2.2.1,fun o ho=>(h o ho).2.2.2⟩
theorem zpW {fi:FA} {src:List (Option Nat)} {sd:Sd} {t:Int} (hi:fi sd=pure (os.map zcF)) (hl:os.length<=1000) (eb:zah src sd=[none,some (.int t)]):zav fi (zaB 0) zbM zbO src sd=pure (.lst ((os.filter (zj2 t)).map zcF)):=by
 rw [<- zap]
 refine zaw hi hl fun o ho=> ?_
 rw [eb]
 simp only [zaT,zbM,zbO]
 ac_nf0
 rw [zcA]
 ac_nf0
 unfold zj2
 split<;>rfl
theorem zlp {fi:FA} {tc:FT} {src:List (Option Nat)} {sd:Sd} {x:Option D} (hi:fi sd=pure (zc9 0 m.toNat)) (m1:m<=1000) (eb:zah src sd=[none,x]) (hc: ∀ t:Int,tc [some (.int t),x]=pure ((os.filter (zj2 t)).isEmpty)):zav fi (zaB 0) tc (zag 0) src sd=pure (.lst ((zaQ m os).map D.int)):=by
 unfold zaQ
 rw [<- zap]
 refine zaw (by rw [hi,zbr]) (by simp;omega) fun t ht=> ?_
 rw [eb]
 simp only [zaT]
 ac_nf0
 rw [hc]
 ac_nf0
 split<;>rfl
theorem zkt (s:Stk m os):(zaQ m os).isEmpty=(((zfm (os.flatMap (·.1))).length:Int)==m):=by
 have m0:=s.m0
 rw [<- zlm (by omega) (zeY _) fun x hx=>by
   obtain ⟨o,ho,hx⟩:=List.mem_flatMap.mp (zcp.mp hx)
   exact s.bd o ho x hx]
 rw [Bool.eq_iff_iff,beq_iff_eq,List.isEmpty_iff]
 unfold zaQ
 rw [List.filter_eq_nil_iff]
 constructor
 ·intro h
  refine zo7 (zeY _) (zbQ _) fun k=> ?_
  rw [zcp]
  constructor
  ·intro hk
   obtain ⟨o,ho,hx⟩:=List.mem_flatMap.mp hk
   have:=s.bd o ho k hx
   exact List.mem_map.mpr ⟨k.toNat,List.mem_range.mpr (by omega),by omega⟩
  ·intro hk
   have:=h k hk
   rw [List.isEmpty_iff] at this
   obtain ⟨o,ho⟩:=List.exists_mem_of_ne_nil _ this
   obtain ⟨h1,h2⟩:=List.mem_filter.mp ho
   exact List.mem_flatMap.mpr ⟨o,h1,by simpa [zj2] using h2⟩
 ·intro e t ht
  rw [<- e,zcp] at ht
  obtain ⟨o,ho,hx⟩:=List.mem_flatMap.mp ht
  rw [List.isEmpty_iff]
  intro z
  have:o∈os.filter (zj2 t):=List.mem_filter.mpr ⟨ho,by simpa [zj2] using hx⟩
  rw [z] at this
  cases this
theorem zkg:dIx (zaR m os) (.int 1)=pure (.tup (os.map zcF)):=rfl
theorem zvi:dIx (zaR m os) (.int 0)=pure (.int m):=rfl
theorem zkn (s:Stk m os):Ev (F_11 [zaR m os]) (.bl (zaQ m os).isEmpty):=by
 rw [zkt s]
 refine .of_wp fun h=> ?_
 rw [d_11]
 simp only [G_11]
 ac_nf0
 rw [zkg]
 ac_nf0
 refine (zre s (d:= .tup (os.map zcF)) rfl s.len fun o ho=>ho).wp fun h' g=> ?_
 ac_nf0
 exact ⟨trivial,g⟩
theorem zhV (s:Stk m os) (hf:(zaQ m os).isEmpty=true):Ev (F_13 [zaR m os]) .non:=by
 refine .of_wp fun h=> ?_
 rw [d_13]
 simp only [G_13]
 ac_nf0
 refine (zkn s).noX.wp fun h' g=> ?_
 rw [hf]
 ac_nf0
 exact ⟨trivial,g⟩
theorem zni (s:Stk m os) {a:Nat} {p:Int}:(zaQ m (os.take a++[(zaQ m os,p)]++os.drop a)).isEmpty=true:=by
 rw [List.isEmpty_iff]
 unfold zaQ
 rw [List.filter_eq_nil_iff]
 intro t ht
 rw [List.isEmpty_iff]
 intro z
 by_cases c:(os.filter (zj2 t)).isEmpty=true
 ·have h1:t∈zaQ m os:=List.mem_filter.mpr ⟨ht,c⟩
  have h2:(zaQ m os,p)∈(os.take a++[(zaQ m os,p)]++os.drop a).filter (zj2 t):=List.mem_filter.mpr ⟨by simp,by simpa [zj2] using h1⟩
  unfold zaQ at h2
  rw [z] at h2
  cases h2
 ·rw [List.isEmpty_iff] at c
  obtain ⟨o,ho⟩:=List.exists_mem_of_ne_nil _ c
  obtain ⟨h1,h2⟩:=List.mem_filter.mp ho
  have h3:o∈os.take a++os.drop a:=by rw [List.take_append_drop];exact h1
  have h4:o∈(os.take a++[(zaQ m os,p)]++os.drop a).filter (zj2 t):=List.mem_filter.mpr ⟨by
    rcases List.mem_append.mp h3 with w | w
    · simp [w]
    · simp [w],h2⟩
  unfold zaQ at h4
  rw [z] at h4
  cases h4
theorem zqn {h:Hh} {b:Nat} {mt mo:Int} {P:D->Hh->Prop} (q:Bx b h) (t0:1<=mt) (t1:mt<=10) (o0:1<=mo) (o1:mo<=12) (k: ∀ (m:Int) (os:List (List Int×Int)) h',Bx b h'->Stk m os->(zaQ m os).isEmpty=true->(os.length:Int)<=mo->m<=mt->P (zaR m os) h'):wp (F_33 [.cel b,.int mt,.int mo]) h P:=by
 rw [d_33]
 simp only [G_33]
 ac_nf0
 refine zof q t0 t1 (by omega) (by omega) fun m os h2 q2 m0 m1 ol ho=> ?_
 have s:=zow m0 (by omega) (by omega) ho
 have ec:zav (zed (zac (zag 3) zar)) (zaB 0) zcB zdr [none,some 4] [some (.cel b),some (.int mt),some (.int mo),some (.int m),some (.tup (os.map zcF)),none,none]=pure (.lst ((zaQ m os).map D.int)):=by
  refine zlp (x:=some (.tup (os.map zcF))) ?_ (by omega) rfl fun t=> ?_
  ·ac_nf0
   exact zbc (by omega) (by omega)
  ·have eo:zav (iSq (zag 1)) (zaB 0) zbM zbO [none,some 0] [some (.int t),some (.tup (os.map zcF))]=pure (.lst ((os.filter (zj2 t)).map zcF)):=zpW rfl (by omega) rfl
   simp only [zcB]
   ac_nf0
   rw [eo]
   ac_nf0
   rw [zno]
   ac_nf0
 simp only [zaR]
 ac_nf0
 rw [ec]
 ac_nf0
 refine zct q2 (by omega) (by omega) fun a h3 a0 a1 x3=> ?_
 have en:=zmY (zaQ m os)
 unfold tI at en
 ac_nf0
 rw [en]
 ac_nf0
 cases hf:(zaQ m os).isEmpty with
 | true=>
  ac_nf0
  exact k m os h3 x3.1 s hf (by omega) m1
 | false=>
  ac_nf0
  refine zct x3.1 (by decide) (by decide) fun t h4 u0 u1 x4=> ?_
  have f1:=zaz (show (List.take a.toNat (os.map zcF)).length+1<=1000 by simp;omega)
  have f2:=zaz (show (List.take a.toNat (os.map zcF)).length+1+(List.drop a.toNat (os.map zcF)).length<=1000 by simp;omega)
  ac_nf0
  simp only [zi6 _ a0,ziI _ a0,f1,f2]
  ac_nf0
  have hs:Stk m (os.take a.toNat++[(zaQ m os,1+t)]++os.drop a.toNat):=by
   refine zow m0 (by omega) (by simp;omega) fun o hmem=> ?_
   have hm:o∈os\/o=(zaQ m os,1+t):=by
    simp only [List.mem_append,List.mem_singleton] at hmem
    rcases hmem with (w | w) | w
    ·exact .inl (List.mem_of_mem_take w)
    ·exact .inr w
    ·exact .inl (List.mem_of_mem_drop w)
   rcases hm with w | rfl
   ·exact ho o w
   ·refine ⟨(zbQ _).filter _,fun x hx=> ?_,fun z=> ?_,by show (0:Int)<1+t;omega⟩
    ·have:=zcj x (List.mem_filter.mp hx).1
     omega
    ·have z:zaQ m os=[]:=z
     rw [z] at hf
     cases hf
  have hk:=k _ _ h4 x4.1 hs (zni s) (by simp;omega) m1
  simp only [zaR,List.map_append,qaz,List.map_nil,List.map_take,List.map_drop,zcF,tI] at hk
  simpa using hk
theorem zcy {d:D} (k:kn d=true):F_8 [d]=pure (.bl (isI d)):=by
 rw [d_8]
 simp only [G_8,zck,zkZ,zmP,zaP,pure_bind,bind_assoc,zld k,zoX k,zde,zls]
 cases d<;>simp [isI]
theorem zhB {m:Int} {x0:Option D}: ∀ {ds:List D} {l:Int} {x3:Option D},(∀ d∈ds,kn d=true)->
  (zcq m l ds=true-> ∃ sd',zaS (fun x sd=>do let sd1<-zaB 3 x sd;za4 sd1) ds [x0,some (.int m),some (.int l),x3]=pure (.nx sd'))/\
  (zcq m l ds=false->zaS (fun x sd=>do let sd1<-zaB 3 x sd;za4 sd1) ds [x0,some (.int m),some (.int l),x3]=pure (.rt (.bl false)))
 | [],l,x3,_=>⟨fun _=>⟨_,rfl⟩,fun h=>by simp [zcq] at h⟩
 | d::r,l,x3,hk=>by
  have kd:=hk d qan
  have step: ∀ {i:Int},d= .int i->(do let sd1<-zaB 3 d [x0,some (.int m),some (.int l),x3];za4 sd1)=if (decide (l<=i) && decide (i<m))=true then pure (.nx [x0,some (.int m),some (.int (i+1)),some (.int i)]) else pure (.rt (.bl false)):=by
   intro i e
   subst e
   simp only [za4,zcE,List.set,pure_bind,bind_assoc,zaY,zgX,zo8,ziw,ziV,zbl,zaJ,za8,za5,zaP,zis,zcy (show kn (.int i)=true from rfl),zde,isI,zfR,zr9,zuA,zck,zgA,zeG]
   by_cases h1:l<=i
   ·by_cases h2:i<m
    ·have h1': ¬i<l:=by omega
     have h2': ¬m<=i:=by omega
     simp [h1,h2,h1',h2']
    ·have h1': ¬i<l:=by omega
     have h2':m<=i:=by omega
     simp [h1,h2,h1',h2']
   ·have h1':i<l:=by omega
    simp [h1,h1']
  by_cases hi:isI d=true
  ·obtain ⟨i,e⟩: ∃ i,d= .int i:=by cases d<;>simp [isI] at hi;exact ⟨_,rfl⟩
   have s1:=step e
   subst e
   have ih:=zhB (m:=m) (x0:=x0) (ds:=r) (l:=i+1) (x3:=some (.int i)) fun y hy=>hk y (qaj _ hy)
   rw [zbC,s1]
   by_cases c:(decide (l<=i) && decide (i<m))=true
   ·have er:zcq m l (.int i::r)=zcq m (i+1) r:=by rw [zcq,c];simp
    rw [er]
    simp only [c,if_true,pure_bind]
    exact ih
   ·have er:zcq m l (.int i::r)=false:=by rw [zcq,Bool.eq_false_iff.mpr c];simp
    rw [er]
    simp only [Bool.eq_false_iff.mpr c,if_false,pure_bind,qaq]
    simp
  ·have hi':isI d=false:=Bool.eq_false_iff.mpr hi
   have er:zcq m l (d::r)=false:=by cases d<;>simp [isI] at hi'<;>rfl
   rw [er,zbC]
   refine ⟨fun h=>(by cases h),fun _=> ?_⟩
   simp only [za4,zcE,List.set,pure_bind,bind_assoc,zaY,zgX,zo8,ziw,ziV,zbl,zaJ,za8,za5,zaP,zis,zcy kd,zde,hi',zck,zgA,zeG]
   simp
theorem zkq {d:D} {m:Int} (k:kn d=true) (hk: ∀ ds,d= .tup ds-> ∀ x∈ds,kn x=true):F_9 [d,.int m]=pure (.bl (match d with | .tup ds=>zcq m 0 ds | _=>false)):=by
 rw [d_9]
 simp only [G_9,zaY,zgX,ziw,ziV,zmP,zaP,pure_bind,bind_assoc,ztl k,zde]
 cases d with
 | tup ds=>
  simp only [isT,Bool.not_true,qaq,if_false,zeG,pure_bind,zg0,zaY,zb6,zgA,List.set,zg5,zsh,zaP,zsU,bind_assoc]
  have:=zhB (m:=m) (x0:=some (.tup ds)) (ds:=ds) (l:=0) (x3:=none) (hk ds rfl)
  cases c:zcq m 0 ds with
  | true=>
   obtain ⟨sd',e⟩:=this.1 c
   rw [e]
   simp
  | false=>
   rw [this.2 c]
   simp
 | _=>simp [isT]
theorem zr7 (s:Stk m os) {d:D} (g:gk d):F_10 [zaR m os,d]=pure (.bl (ztB os.length d)):=by
 rw [d_10]
 simp only [G_10,zaR]
 ac_nf0
 rw [zkq g.1 fun ds e=>(g.2 ds e).2]
 ac_nf0
 cases d<;>rfl
theorem zqd (s:Stk m os) {d:D} (g:gk d) (hp:ztB os.length d=true):F_15 [zaR m os,d]=pure .non:=by
 rw [d_15]
 simp only [G_15]
 ac_nf0
 rw [zr7 s g,hp]
 ac_nf0
theorem zlJ (s:Stk m os) {ls:List Int} (hu:ls.Pairwise (· < ·)) (b: ∀ x∈ls,0<=x/\x<os.length):F_16 [zaR m os,tI ls]=pure (.lst ((zc3 os ls).map zcF)):=by
 have hl:=zgM (m:=os.length) (by omega) hu b
 have hls:ls.length<=12:=by have:=s.len;omega
 have hp:ztB os.length (tI ls)=true:=zcN.mpr ⟨hu,b⟩
 rw [d_16]
 simp only [G_16]
 ac_nf0
 have e:=zqd s (d:=tI ls) (zu6 (by omega)) hp
 unfold tI at e
 rw [e]
 ac_nf0
 rw [zlB (ds:=ls.map D.int) (k:=fun d=>match d with | .int i=>zcF (os.getD i.toNat ([],0)) | d=>d) rfl (by rw [qax];omega) ?_]
 ·ac_nf0
  unfold zc3
  rw [qaF,qaF]
  rfl
 ·intro x hx
  obtain ⟨i,hi,rfl⟩:=List.mem_map.mp hx
  have eb:zah [none,some 0] [some (zaR m os),some (D.tup (ls.map D.int))]=[none,some (zaR m os)]:=rfl
  rw [eb]
  simp only [zaT,zdB,zaR]
  ac_nf0
  rw [zeQ (b i hi).1 (b i hi).2]
  ac_nf0
noncomputable def Lt (os:List (List Int×Int)) (ls:List Int):Prop:=ls.Pairwise (· < ·)/\ ∀ x∈ls,0<=x/\x<os.length
theorem Lt.sub {ls ks:List Int} (h:Lt os ls) (s:ks.Sublist ls):Lt os ks:=⟨h.1.sublist s,fun x hx=>h.2 x (s.subset hx)⟩
theorem Lt.lot {ls:List Int} (h:Lt os ls):ztB os.length (tI ls)=true:=zcN.mpr h
theorem Lt.len {ls:List Int} (h:Lt os ls) (s:Stk m os):ls.length<=12:=by
 have:=zgM (m:=os.length) (by omega) h.1 h.2
 have:=s.len
 omega
theorem zhv {s0:Option D} {d:D} {p:Nat->Bool}: ∀ (r j:Nat) (x3:Option D),(∀ t:Nat,t<j+r->dIn (.int (t:Int)) d=pure (.bl (p t)))->
  ∃ y3,zaS (fun x sd=>do let sd1<-zaB 3 x sd;zcr sd1) (zc9 j r) [s0,some d,some (.int (bv p j)),x3]=pure (.nx [s0,some d,some (.int (bv p (j+r))),y3])
 | 0,j,x3,_=>⟨x3,rfl⟩
 | r+1,j,x3,hd=>by
  obtain ⟨y3,ih⟩:=zhv (s0:=s0) (d:=d) (p:=p) r (j+1) (some (.int j)) fun t ht=>hd t (by omega)
  refine ⟨y3,?_⟩
  have e1:((j+1:Nat):Int)=(j:Int)+1:=by omega
  have e2:j+1+r=j+(r+1):=by omega
  rw [e1,e2] at ih
  rw [zod,zbC, <-ih]
  generalize zaS (fun x sd=>do let sd1<-zaB 3 x sd;zcr sd1) (zc9 ((j:Int)+1) r)=rest
  simp only [zcr]
  ac_nf0
  rw [zrC (by decide) (by decide)]
  ac_nf0
  rw [hd j (by omega)]
  ac_nf0
  have eb:bv p (j+1)=bv p j*2+(if p j=true then 1 else 0):=rfl
  rw [eb]
  cases p j
  ·ac_nf0
   simp
  ·ac_nf0
   simp
theorem zkT {d:D} {p:Nat->Bool} (m0:0<=m) (m1:m<1000) (hd: ∀ t:Nat,t<m.toNat->dIn (.int (t:Int)) d=pure (.bl (p t))):F_21 [.int m,d]=pure (.int (bv p m.toNat)):=by
 obtain ⟨y3,el⟩:=zhv (s0:=some (.int m)) (d:=d) (p:=p) m.toNat 0 none fun t ht=>hd t (by omega)
 rw [Nat.zero_add] at el
 have e0:((bv p 0:Nat):Int)=0:=rfl
 rw [e0] at el
 rw [d_21]
 simp only [G_21]
 ac_nf0
 rw [zbc m0 m1]
 simp only [zcE,pure_bind,Int.natCast_zero] at el
 ac_nf0
 rw [el]
 ac_nf0
theorem zm6 (m0:0<=m) (m1:m<1000):F_21 [.int m,.lst (zc9 0 m.toNat)]=pure (.int (bv (fun _=>true) m.toNat)):=by
 refine zkT m0 m1 fun t ht=> ?_
 rw [zbr,zmy]
 congr 2
 rw [List.any_eq_true]
 exact ⟨(t:Int),List.mem_map.mpr ⟨t,List.mem_range.mpr ht,rfl⟩,by simp⟩
theorem zjI (s:Stk m os) (n9:os.length<=9) {r:Nat} (hr:r<os.length) {x3 x4 x5:Option D}: ∃ y3 y4 y5,zba [some (zaR m os),some (.lst ((kl os.length r).map (trD m os))),some (.int (((os.length - (r+1):Nat)):Int)),x3,x4,x5]=pure (.nx [some (zaR m os),some (.lst ((kl os.length (r+1)).map (trD m os))),some (.int (((os.length - (r+1):Nat)):Int)),y3,y4,y5]):=by
 have m0:=s.m0
 have m1:=s.m1
 have hk:=ze0 os.length r
 have hk9:2^r<=2^8:=Nat.pow_le_pow_right (by decide) (by omega)
 have hj:os.length - (r+1)<os.length:=by omega
 generalize hje:os.length - (r+1)=j at hj
 have ea:=zeQ (os:=os) (i:=(j:Int)) (by omega) (by omega)
 rw [qas] at ea
 have mo:os.getD j ([],0)∈os:=by simp [List.getD,hj]
 generalize ho:os.getD j ([],0)=o at ea mo
 have lo:=s.olen o mo
 have eb:=zkT (m:=m) (d:= .tup (o.1.map D.int)) (p:=fun t=>o.1.any (· == (t:Int))) (by omega) (by omega) fun t _=>zcA _ _
 have ec:zav (iSq (zag 1)) (zaB 0) (fun _=>pure true) zb9 [none,some 3,some 2,some 4] [some (zaR m os),some (.lst ((kl os.length r).map (trD m os))),some (.int (j:Int)),some (.tup [.tup (o.1.map D.int),.int o.2]),some (.int (bv (fun t=>o.1.any (· == (t:Int))) m.toNat)),x5]=pure (.lst (((kl os.length r).map fun ls=>(j:Int)::ls).map (trD m os))):=by
  rw [show ((kl os.length r).map fun ls=>(j:Int)::ls).map (trD m os)=(kl os.length r).filterMap fun ls=>some (trD m os ((j:Int)::ls)) by simp]
  refine zaw (g':=trD m os) rfl (by omega) fun ls hls=> ?_
  obtain ⟨h1,h2⟩:=(zd9 os.length r ls (by omega)).mp hls
  have ll:=zgM (m:=os.length) (by omega) h1 fun x hx=>by have:=h2 x hx;omega
  have f:=zaz (show 1+ls.length<=1000 by omega)
  have ebs:zah [none,some 3,some 2,some 4] [some (zaR m os),some (.lst ((kl os.length r).map (trD m os))),some (.int (j:Int)),some (.tup [.tup (o.1.map D.int),.int o.2]),some (.int (bv (fun t=>o.1.any (· == (t:Int))) m.toNat)),x5]=[none,some (.tup [.tup (o.1.map D.int),.int o.2]),some (.int (j:Int)),some (.int (bv (fun t=>o.1.any (· == (t:Int))) m.toNat))]:=rfl
  have e2: ∀ a b c:D,atI [a,b,c] 2=some c:=fun a b c=>rfl
  have eo:dOr (.int (bv (fun t=>o.1.any (· == (t:Int))) m.toNat)) (.int (bv (zoR os ls) m.toNat))=pure (.int (bv (zoR os ((j:Int)::ls)) m.toNat)):=by
   show (pure (D.int (Builtin.bitOr _ _)):M D)=_
   rw [zrn,zr0]
   congr 3
   refine zji fun i _=> ?_
   unfold zoR
   rw [List.any_cons,qas,ho]
  have ep:pr os ((j:Int)::ls)=o.2+pr os ls:=by
   unfold pr
   rw [qaz,List.sum_cons,qas,ho]
  rw [ebs]
  simp only [zaT,zb9,trD]
  ac_nf0
  simp only [e2,f]
  ac_nf0
  rw [eo,ep]
  ac_nf0
  rfl
 refine ⟨some (.tup [.tup (o.1.map D.int),.int o.2]),some (.int (bv (fun t=>o.1.any (· == (t:Int))) m.toNat)),some (.lst (((kl os.length r).map fun ls=>(j:Int)::ls).map (trD m os))),?_⟩
 have fk:(kl os.length (r+1)).length<=1000:=by
  rw [ze0]
  have:2^(r+1)<=2^9:=Nat.pow_le_pow_right (by decide) (by omega)
  omega
 have ek:kl os.length (r+1)=(kl os.length r).take 1++(kl os.length r).map (fun ls=>(j:Int)::ls)++(kl os.length r).drop 1:=by
  rw [<- hje]
  rfl
 have f1:=zaz (show (((kl os.length r).map (trD m os)).take 1).length+((kl os.length r).map fun ls=>(j:Int)::ls).length<=1000 by simp only [List.length_take,qax,hk];omega)
 have f2:=zaz (show (((kl os.length r).map (trD m os)).take 1++((kl os.length r).map fun ls=>(j:Int)::ls).map (trD m os)).length+(((kl os.length r).map (trD m os)).drop 1).length<=1000 by simp only [qao,List.length_take,List.length_drop,qax,hk];omega)
 have es: ∀ (ds:List D) (lo hi:Option Int),dSl (.lst ds) lo hi=pure (.lst (zkf ds lo hi)):=fun _ _ _=>rfl
 simp only [zba]
 ac_nf0
 rw [zkg]
 ac_nf0
 rw [ea]
 ac_nf0
 rw [zvi]
 ac_nf0
 rw [eb]
 ac_nf0
 rw [ec]
 ac_nf0
 simp only [es,zi6 _ (show (0:Int)<=1 by decide),ziI _ (show (0:Int)<=1 by decide)]
 ac_nf0
 rw [show (1:Int).toNat=1 from rfl]
 simp only [zoB,qax,qao] at f1 f2 ⊢
 rw [f1]
 ac_nf0
 rw [f2]
 ac_nf0
 rw [ek,List.map_append,List.map_append,List.map_take,List.map_drop]
theorem zfz (s:Stk m os) (n9:os.length<=9): ∀ (k r:Nat) (x2 x3 x4 x5:Option D),k+r=os.length->
  ∃ y2 y3 y4 y5,zaS (fun x sd=>do let sd1<-zaB 2 x sd;zba sd1) (zjx ((k:Int) - 1) k) [some (zaR m os),some (.lst ((kl os.length r).map (trD m os))),x2,x3,x4,x5]=pure (.nx [some (zaR m os),some (.lst ((kl os.length os.length).map (trD m os))),y2,y3,y4,y5])
 | 0,r,x2,x3,x4,x5,h=>⟨x2,x3,x4,x5,by
   have:r=os.length:=by omega
   subst this
   rfl⟩
 | k+1,r,x2,x3,x4,x5,h=>by
  obtain ⟨z3,z4,z5,eb⟩:=zjI s n9 (r:=r) (by omega) (x3:=x3) (x4:=x4) (x5:=x5)
  obtain ⟨y2,y3,y4,y5,ih⟩:=zfz s n9 k (r+1) (some (.int (k:Int))) z3 z4 z5 (by omega)
  refine ⟨y2,y3,y4,y5,?_⟩
  have e1:((k+1:Nat):Int) - 1=(k:Int):=by omega
  have e2:os.length - (r+1)=k:=by omega
  rw [e2] at eb
  rw [e1,zoc,zbC, <-ih]
  show (do let o<-zba [some (zaR m os),some (.lst ((kl os.length r).map (trD m os))),some (.int (k:Int)),x3,x4,x5];_:M Out)=_
  rw [eb]
  rfl
theorem zm3 (s:Stk m os) (n9:os.length<=9):F_20 [zaR m os]=pure (.lst ((kl os.length os.length).map (trD m os))):=by
 obtain ⟨y2,y3,y4,y5,el⟩:=zfz s n9 os.length 0 none none none none (by omega)
 have e0:(kl os.length 0).map (trD m os)=[.tup [.int 0,.tup [],.int 0]]:=by
  show [trD m os []]=_
  unfold trD
  rw [zlV (p:=zoR os []) (fun _=>rfl)]
  rfl
 rw [e0] at el
 have er:znP [.int ((os.length:Int) - 1),.int (-1),.int (-1)]=pure (zjx ((os.length:Int) - 1) os.length):=by
  show (if (-1000<=(os.length:Int) - 1/\(os.length:Int) - 1<1000/\(-1000:Int)<= -1/\(-1:Int)<1000)/\(-1:Int)= -1 then (pure (zjx ((os.length:Int) - 1) ((os.length:Int) - 1 - -1).toNat):M (List D)) else M.bad)=_
  rw [if_pos ⟨⟨by omega,by omega,by omega,by omega⟩,rfl⟩]
  congr 2
  omega
 have ei: ∀ (fs:FA) (sd:Sd),zqs fs sd=(do let ds<-fs sd;znP ds):=fun _ _=>rfl
 simp only [zcE,pure_bind] at el
 rw [d_20]
 simp only [G_20]
 ac_nf0
 simp only [ei]
 ac_nf0
 rw [zkg]
 ac_nf0
 rw [er]
 ac_nf0
 rw [el]
 ac_nf0
noncomputable def zgC (m:Int) (os:List (List Int×Int)):List (Int×List Int):=((kl os.length os.length).filter (cvB m os)).map fun ls=>(pr os ls,ls)
noncomputable def zkh (m:Int) (os:List (List Int×Int)):Int×List Int:=(zgC m os).getD (zbw (zgC m os)) (0,[])
theorem zeK (s:Stk m os) (n9:os.length<=9):F_19 [zaR m os]=pure (.lst ((zgC m os).map pD)):=by
 have m0:=s.m0
 have m1:=s.m1
 have hk:=ze0 os.length os.length
 have hk9:2^os.length<=2^9:=Nat.pow_le_pow_right (by decide) n9
 have ec:zav (iSq (zaC (zat 1 F_20) (zac (zag 0) zar))) (zaB 0) zbF zbD [none,some 1] [some (zaR m os),some (.int (bv (fun _=>true) m.toNat))]=pure (.lst ((zgC m os).map pD)):=by
  unfold zgC
  rw [qaF, <-zap]
  refine zaw (g':=trD m os) ?_ (by omega) fun ls hls=> ?_
  ·ac_nf0
   rw [zm3 s n9]
   ac_nf0
  ·have eb:zah [none,some 1] [some (zaR m os),some (.int (bv (fun _=>true) m.toNat))]=[none,some (.int (bv (fun _=>true) m.toNat))]:=rfl
   have e2: ∀ a b c:D,atI [a,b,c] 2=some c:=fun a b c=>rfl
   rw [eb]
   simp only [zaT,zbF,zbD,trD]
   ac_nf0
   simp only [e2]
   ac_nf0
   rw [zqV,zm7]
   ac_nf0
   unfold cvB
   split<;>rfl
 have el:zf8 (.int m)=pure (.lst (zc9 0 m.toNat)):=by
  show (if 0<=m/\m<1000 then _ else _)=_
  rw [if_pos ⟨by omega,by omega⟩]
 rw [d_19]
 simp only [G_19]
 ac_nf0
 rw [zvi]
 ac_nf0
 rw [el]
 ac_nf0
 rw [zm6 (by omega) (by omega)]
 ac_nf0
 rw [ec]
 ac_nf0
theorem zjh (hf:(zaQ m os).isEmpty=true) {t:Int} (t0:0<=t) (t1:t<m): ∃ o∈os,t∈o.1:=by
 rw [List.isEmpty_iff] at hf
 unfold zaQ at hf
 rw [List.filter_eq_nil_iff] at hf
 have h1:=hf t (List.mem_map.mpr ⟨t.toNat,List.mem_range.mpr (by omega),by omega⟩)
 rw [List.isEmpty_iff] at h1
 obtain ⟨o,ho⟩:=List.exists_mem_of_ne_nil _ h1
 obtain ⟨h2,h3⟩:=List.mem_filter.mp ho
 exact ⟨o,h2,by simpa [zj2] using h3⟩
theorem zij (s:Stk m os) (hf:(zaQ m os).isEmpty=true):zgC m os≠[]:=fun z=>by
 have h1:(List.range os.length).map (fun (k:Nat)=>(k:Int))∈(kl os.length os.length).filter (cvB m os):=by
  refine List.mem_filter.mpr ⟨(zd9 _ _ _ (qaG _)).mpr ⟨zbQ _,fun y hy=>by have:=zcj y hy;omega⟩,zhT.mpr fun t t0 t1=> ?_⟩
  obtain ⟨o,ho,hx⟩:=zjh hf t0 t1
  obtain ⟨j,hj,rfl⟩:=List.getElem_of_mem ho
  refine ⟨(j:Int),List.mem_map.mpr ⟨j,List.mem_range.mpr hj,rfl⟩,?_⟩
  rw [qas]
  simpa [List.getD,hj] using hx
 have h2:(pr os ((List.range os.length).map fun (k:Nat)=>(k:Int)),(List.range os.length).map fun (k:Nat)=>(k:Int))∈zgC m os:=List.mem_map.mpr ⟨_,h1,rfl⟩
 rw [z] at h2
 cases h2
theorem zqe (s:Stk m os) {ls:List Int} (L:Lt os ls):(((zfm ((zc3 os ls).flatMap (·.1))).length:Int)==m)=cvB m os ls:=by
 have m0:=s.m0
 rw [<- zlm (by omega) (zeY _) fun x hx=>by
   obtain ⟨o,ho,hx⟩:=List.mem_flatMap.mp (zcp.mp hx)
   exact s.bd o (ze7 L.2 o ho) x hx]
 rw [Bool.eq_iff_iff,beq_iff_eq,zhT]
 constructor
 ·intro e t t0 t1
  have h1:t∈zfm ((zc3 os ls).flatMap (·.1)):=by
   rw [e]
   exact List.mem_map.mpr ⟨t.toNat,List.mem_range.mpr (by omega),by omega⟩
  obtain ⟨o,ho,hx⟩:=List.mem_flatMap.mp (zcp.mp h1)
  obtain ⟨i,hi,rfl⟩:=List.mem_map.mp ho
  exact ⟨i,hi,hx⟩
 ·intro h
  refine zo7 (zeY _) (zbQ _) fun k=> ?_
  rw [zcp]
  constructor
  ·intro hk
   obtain ⟨o,ho,hx⟩:=List.mem_flatMap.mp hk
   have:=s.bd o (ze7 L.2 o ho) k hx
   exact List.mem_map.mpr ⟨k.toNat,List.mem_range.mpr (by omega),by omega⟩
  ·intro hk
   have:=zcj k hk
   obtain ⟨i,hi,hx⟩:=h k this.1 (by omega)
   exact List.mem_flatMap.mpr ⟨_,List.mem_map.mpr ⟨i,hi,rfl⟩,hx⟩
theorem zjf (s:Stk m os) {ls:List Int} (L:Lt os ls):F_12 [zaR m os,tI ls]=pure (.int (pr os ls)):=by
 have ll:=L.len s
 have e2:=zlJ s L.1 L.2
 have h3:(zc3 os ls).length=ls.length:=by unfold zc3;simp
 have ec:zav (iSq (zaC (zat 2 F_16) (zac (zag 0) (zac (zag 1) zar)))) (zaB 0) (fun _=>pure true) zcI [none] [some (zaR m os),some (tI ls)]=pure (.lst (((zc3 os ls).map (·.2)).map D.int)):=by
  rw [show ((zc3 os ls).map (·.2)).map D.int=(zc3 os ls).filterMap fun o=>some (.int o.2) by simp]
  refine zaw (g':=zcF) ?_ (by omega) fun o _=> ?_
  ·simp only [tI] at e2
   ac_nf0
   rw [e2]
   ac_nf0
  ·have eb:zah [none] [some (zaR m os),some (tI ls)]=[none]:=rfl
   rw [eb]
   simp only [zaT,zcI]
   ac_nf0
 rw [d_12]
 simp only [G_12,zck,zbl,zaJ,za8]
 rw [ec]
 simp only [pure_bind]
 rw [zqv]
 unfold pr zc3
 rw [qaF]
 rfl
theorem zpb (s:Stk m os) (hf:(zaQ m os).isEmpty=false):EvX (F_13 [zaR m os]) "NotFull":=by
 rw [d_13]
 simp only [G_13]
 ac_nf0
 refine Ev.bindX (zkn s).noX ?_
 rw [hf]
 ac_nf0
 exact .raise
theorem zny {fi:FA} {src:List (Option Nat)} {sd:Sd} {n b:Nat} (hi:fi sd=pure (zc9 0 n)) (hn:n<=1000) (eb:zah src sd=[none,some (.int b)]):zav fi (zaB 0) zbm zbn src sd=pure (.lst ((zdM n b).map D.int)):=by
 unfold zdM zft
 rw [qaF, <-zap]
 refine zaw (g':=fun (k:Nat)=> .int (k:Int)) (by rw [hi,zbr,qaF];rfl) (by simpa using hn) fun i hi'=> ?_
 rw [eb]
 simp only [zaT,zbm,zbn]
 ac_nf0
 rw [zqg (by omega)]
 ac_nf0
 rw [zgs (by decide)]
 ac_nf0
 rw [zqV,qas,zn5]
 ac_nf0
 split<;>rfl
theorem zfP {e:Nat} {s0 s1 s2 s3 s5 s6:Option D}: ∀ (ts:List Int) {h:Hh} {ks:List Int} {x7:Option D} {P:Out->Hh->Prop},h[e]? = some (.dic (zcG ks))->ks.length+ts.length<=1000->
  (∀ y7 h',h'[e]? = some (.dic (zcG (ts.foldl step_dedup ks)))->(∀ k,k≠e->h'[k]? = h[k]?)->h'.length=h.length->P (.nx [s0,s1,s2,s3,some (.cel e),s5,s6,y7]) h')->
  wp (zaS (fun x sd=>do let sd1<-zaB 7 x sd;zbs sd1) (ts.map D.int) [s0,s1,s2,s3,some (.cel e),s5,s6,x7]) h P
 | [],h,ks,x7,P,e1,hl,k=>by
  rw [List.map_nil,zb4,zam]
  exact k x7 h e1 (fun _ _=>rfl) rfl
 | t::r,h,ks,x7,P,e1,hl,k=>by
  have hln:=(qab.mp e1).1
  rw [qav] at hl
  have hd:(step_dedup ks t).length<=ks.length+1:=by
   unfold step_dedup
   split
   ·omega
   ·rw [qao];exact qaG _
  have ih:=fun (y7:Option D)=>zfP (e:=e) (s0:=s0) (s1:=s1) (s2:=s2) (s3:=s3) (s5:=s5) (s6:=s6) r (h:=h.set e (.dic (zcG (step_dedup ks t)))) (ks:=step_dedup ks t) (x7:=y7) (P:=P) (qaf hln) (by omega)
   fun y7 h' h1 h2 h3=>k y7 h' h1 (fun j hj=>(h2 j hj).trans (qak (Ne.symm hj))) (h3.trans (qay ..))
  rw [qaz,zbC]
  generalize zaS (fun x sd=>do let sd1<-zaB 7 x sd;zbs sd1) (r.map D.int)=rest at ih ⊢
  have f:=zaz (show (zcG ks).length+1<=1000 by unfold zcG;rw [qax];omega)
  simp only [zbs]
  ac_nf0
  simp only [zsn]
  ac_nf0
  simp only [zsJ,zaq,zkx e1,zam,f,zpA,zn3]
  exact ih _
noncomputable def flt (os:List (List Int×Int)) (ls:List Int):List Int:=(zc3 os ls).flatMap (·.1)
theorem zfE (s:Stk m os) {e:Nat} {s1 s2 s3:Option D}: ∀ (ls:List Int) {h:Hh} {ks:List Int} {p:Int} {x6 x7:Option D} {P:Out->Hh->Prop},(∀ x∈ls,0<=x/\x<os.length)->h[e]? = some (.dic (zcG ks))->ks.length+(flt os ls).length<=1000->
  (∀ y6 y7 h',h'[e]? = some (.dic (zcG ((flt os ls).foldl step_dedup ks)))->(∀ k,k≠e->h'[k]? = h[k]?)->h'.length=h.length->P (.nx [some (zaR m os),s1,s2,s3,some (.cel e),some (.int (p+pr os ls)),y6,y7]) h')->
  wp (zaS (fun x sd=>do let sd1<-zaB 6 x sd;zbo sd1) (ls.map D.int) [some (zaR m os),s1,s2,s3,some (.cel e),some (.int p),x6,x7]) h P
 | [],h,ks,p,x6,x7,P,hb,e1,hl,k=>by
  rw [List.map_nil,zb4,zam]
  have:=k x6 x7 h e1 (fun _ _=>rfl) rfl
  simpa [pr] using this
 | i::r,h,ks,p,x6,x7,P,hb,e1,hl,k=>by
  have ef:flt os (i::r)=(os.getD i.toNat ([],0)).1++flt os r:=by
   unfold flt zc3
   rw [qaz,List.flatMap_cons]
  rw [ef,qao] at hl
  have dl: ∀ (ts ks:List Int),(ts.foldl step_dedup ks).length<=ks.length+ts.length:=by
   intro ts
   induction ts with
   | nil=>intro ks;exact qaG _
   | cons t ts ih=>
    intro ks
    rw [List.foldl_cons,qav]
    have h1:=ih (step_dedup ks t)
    have hd:(step_dedup ks t).length<=ks.length+1:=by
     unfold step_dedup
     split
     ·omega
     ·rw [qao];exact qaG _
    omega
  have dl1:=dl (os.getD i.toNat ([],0)).1 ks
  have ih:=fun (h1:Hh) (y6 y7:Option D) (g1:h1[e]? = some (.dic (zcG ((os.getD i.toNat ([],0)).1.foldl step_dedup ks)))) (g2: ∀ k,k≠e->h1[k]? = h[k]?) (g3:h1.length=h.length)=>
   zfE s (e:=e) (s1:=s1) (s2:=s2) (s3:=s3) r (h:=h1) (ks:=(os.getD i.toNat ([],0)).1.foldl step_dedup ks) (p:=p+(os.getD i.toNat ([],0)).2) (x6:=y6) (x7:=y7) (P:=P) (fun x hx=>hb x (qaj _ hx)) g1 (by omega)
   fun y6 y7 h' a1 a2 a3=>by
    have:=k y6 y7 h' (by rw [a1,ef,List.foldl_append]) (fun j hj=>(a2 j hj).trans (g2 j hj)) (a3.trans g3)
    have ep:p+pr os (i::r)=p+(os.getD i.toNat ([],0)).2+pr os r:=by
     unfold pr
     rw [qaz,List.sum_cons]
     omega
    rw [ep] at this
    exact this
  obtain ⟨i0,i1⟩:=hb i qan
  rw [qaz,zbC]
  generalize zaS (fun x sd=>do let sd1<-zaB 6 x sd;zbo sd1) (r.map D.int)=rest at ih ⊢
  simp only [zbo]
  ac_nf0
  simp only [zkg]
  ac_nf0
  rw [zeQ i0 i1]
  ac_nf0
  refine zfP _ e1 (by omega) fun y7 h1 g1 g2 g3=> ?_
  ac_nf0
  exact ih h1 _ _ g1 g2 g3
noncomputable def zmF (m:Int) (os:List (List Int×Int)) (b:Nat):Option (Int×List Int):=if cvB m os (zdM os.length b)=true then some (pr os (zdM os.length b),zdM os.length b) else none
noncomputable def zqH (m:Int) (os:List (List Int×Int)):List (Int×List Int):=(List.range (2^os.length)).filterMap (zmF m os)
theorem zdJ (s:Stk m os) {c:Nat}: ∀ (bs:List Nat) {h:Hh} {ps:List (Int×List Int)} {x2 x3 x4 x5 x6 x7:Option D} {P:Out->Hh->Prop},h[c]? = some (.lst (ps.map pD))->ps.length+bs.length<=1000->
  (∀ y2 y3 y4 y5 y6 y7 h',h'[c]? = some (.lst ((ps++bs.filterMap (zmF m os)).map pD))->Kp c h h'->P (.nx [some (zaR m os),some (.cel c),y2,y3,y4,y5,y6,y7]) h')->
  wp (zaS (fun x sd=>do let sd1<-zaB 2 x sd;zbk sd1) (bs.map fun (b:Nat)=> .int (b:Int)) [some (zaR m os),some (.cel c),x2,x3,x4,x5,x6,x7]) h P
 | [],h,ps,x2,x3,x4,x5,x6,x7,P,e,hl,k=>by
  rw [List.map_nil,zb4,zam]
  have hln:=(qab.mp e).1
  exact k _ _ _ _ _ _ h (by simpa using e) ⟨by omega,fun _ _=>rfl⟩
 | b::r,h,ps,x2,x3,x4,x5,x6,x7,P,e,hl,k=>by
  have hln:=(qab.mp e).1
  rw [qav] at hl
  have ol:=s.len
  have m0:=s.m0
  have L:Lt os (zdM os.length b):=⟨zjp _ _,ziC _ _⟩
  have ll:=L.len s
  have ec:zav (zed (zac (zaC zeL (zac (cOp dIx (zag 0) (cK (.int 1))) zar)) zar)) (zaB 0) zbm zbn [none,some 2] [some (zaR m os),some (.cel c),some (.int (b:Int)),x3,x4,x5,x6,x7]=pure (.lst ((zdM os.length b).map D.int)):=by
   refine zny ?_ (by omega) rfl
   ac_nf0
   rw [zkg]
   ac_nf0
   rw [zbc (by omega) (by omega),qas]
  have hfl:(flt os (zdM os.length b)).length<=144:=by
   have h3:(zc3 os (zdM os.length b)).length=(zdM os.length b).length:=by unfold zc3;simp
   have:=ziW (os:=zc3 os (zdM os.length b)) (n:=12) fun o ho=>by
    have:=s.olen o (ze7 L.2 o ho)
    omega
   unfold flt
   omega
  have hcov:=zqe s L
  have ihN:=fun (h1:Hh) (y2 y3 y4 y5 y6 y7:Option D) (e1:h1[c]? = some (.lst (ps.map pD))) (kp:Kp c h h1) (hf:zmF m os b=none)=>zdJ s (c:=c) r (h:=h1) (ps:=ps) (x2:=y2) (x3:=y3) (x4:=y4) (x5:=y5) (x6:=y6) (x7:=y7) (P:=P) e1 (by omega)
   fun a2 a3 a4 a5 a6 a7 h' e' kp'=>k a2 a3 a4 a5 a6 a7 h' (by rw [e',List.filterMap_cons,hf]) ⟨kp'.1,fun j hj=>(kp'.2 j hj).trans (kp.2 j hj)⟩
  have ihS:=fun (h1:Hh) (y2 y3 y4 y5 y6 y7:Option D) (p:Int×List Int) (e1:h1[c]? = some (.lst ((ps++[p]).map pD))) (kp:Kp c h h1) (hf:zmF m os b=some p)=>zdJ s (c:=c) r (h:=h1) (ps:=ps++[p]) (x2:=y2) (x3:=y3) (x4:=y4) (x5:=y5) (x6:=y6) (x7:=y7) (P:=P) e1 (by simp;omega)
   fun a2 a3 a4 a5 a6 a7 h' e' kp'=>k a2 a3 a4 a5 a6 a7 h' (by rw [e',List.filterMap_cons,hf];simp) ⟨kp'.1,fun j hj=>(kp'.2 j hj).trans (kp.2 j hj)⟩
  rw [qaz,zbC]
  generalize zaS (fun x sd=>do let sd1<-zaB 2 x sd;zbk sd1) (r.map fun (b:Nat)=> .int (b:Int))=rest at ihN ihS ⊢
  have f:=zaz (show ps.length+1<=1000 by omega)
  simp only [zbk]
  ac_nf0
  rw [ec]
  ac_nf0
  simp only [zpS]
  have e1:(h++[.dic []])[c]? = some (.lst (ps.map pD)):=by rw [qac hln];exact e
  have e2:(h++[.dic []])[h.length]? = some (.dic (zcG [])):=by simp [zcG]
  have kp1:Kp c h (h++[.dic []]):=⟨by simp;omega,fun j hj=>qac (by omega)⟩
  have hce:c<h.length:=hln
  clear hln
  generalize h.length=d at e2 hce ⊢
  generalize h++[.dic []]=h1 at e1 e2 kp1 ⊢
  ac_nf0
  refine zfE s (zdM os.length b) (p:=0) L.2 e2 (by simp;omega) fun y6 y7 h2 g1 g2 g3=> ?_
  have e3:h2[c]? = some (.lst (ps.map pD)):=by rw [g2 c (by omega)];exact e1
  have kp2:Kp c h h2:=⟨by rw [g3];exact kp1.1,fun j hj=>by rw [g2 j (by omega)];exact kp1.2 j hj⟩
  have hl2:((zcG ((flt os (zdM os.length b)).foldl step_dedup [])).length:Int)=((zfm (flt os (zdM os.length b))).length:Int):=by
   unfold zcG
   rw [qax,zkW]
  have hcov':(((zfm (flt os (zdM os.length b))).length:Int)==m)=cvB m os (zdM os.length b):=hcov
  ac_nf0
  simp only [zq6,zaq,zkx g1,zam,zvi,hl2]
  ac_nf0
  rw [zqV,hcov']
  ac_nf0
  by_cases hap:cvB m os (zdM os.length b)=true
  ·have hf:zmF m os b=some (pr os (zdM os.length b),zdM os.length b):=by unfold zmF;rw [if_pos hap]
   rw [hap]
   ac_nf0
   simp only [zcv]
   ac_nf0
   simp only [zcL e3,zam,zcb,zaq,qax,f,zfM]
   have hc2:=(qab.mp e3).1
   have:=ihS (h2.set c (.lst ((ps++[(pr os (zdM os.length b),zdM os.length b)]).map pD))) (some (.int b)) (some (tI (zdM os.length b))) (some (.cel d)) (some (.int (pr os (zdM os.length b)))) y6 y7 _ (qaf hc2) ⟨by rw [qay];exact kp2.1,fun j hj=>(qak (by omega)).trans (kp2.2 j hj)⟩ hf
   simp only [List.map_append,qaz,List.map_nil,pD,tI] at this
   first | exact this | (rw [Int.zero_add];exact this)
  ·have hf:zmF m os b=none:=by unfold zmF;rw [if_neg hap]
   rw [Bool.eq_false_iff.mpr hap]
   ac_nf0
   exact ihN _ _ _ _ _ _ _ e3 kp2 hf
theorem zk0 (s:Stk m os): ∀ x,x∈zgC m os↔x∈zqH m os:=fun x=>by
 unfold zgC zqH
 rw [List.mem_map,List.mem_filterMap]
 constructor
 ·rintro ⟨ls,hls,rfl⟩
  obtain ⟨h0,h3⟩:=List.mem_filter.mp hls
  obtain ⟨h1,h2⟩:=(zd9 os.length os.length ls (qaG _)).mp h0
  obtain ⟨b,hb1,hb2⟩:=zeu os.length ls h1 (fun y hy=>by have:=h2 y hy;simpa using this)
  have hb2:zdM os.length b=ls:=hb2
  refine ⟨b,List.mem_range.mpr hb1,?_⟩
  unfold zmF
  rw [hb2,if_pos h3]
 ·rintro ⟨b,hb,e⟩
  unfold zmF at e
  split at e
  ·rename_i h3
   cases e
   exact ⟨zdM os.length b,List.mem_filter.mpr ⟨(zd9 os.length os.length _ (qaG _)).mpr ⟨zjp _ _,fun y hy=>by have:=ziC _ _ y hy;simpa using this⟩,h3⟩,rfl⟩
  ·cases e
noncomputable def zen (m:Int) (os:List (List Int×Int)):List (Int×List Int):=TS.zeU pLt (zqH m os)
theorem zlG (s:Stk m os) (n9:os.length<=9):Ev (F_34 [zaR m os]) (.lst ((zen m os).map pD)):=by
 have m0:=s.m0
 have hp:2^os.length<=512:=Nat.pow_le_pow_right (n:=2) (by decide) n9
 have hN:((1:Int)*2^((os.map zcF).length:Int).toNat).toNat=2^os.length:=by
  rw [qax,qas,Int.one_mul]
  have:((2:Int)^os.length)=((2^os.length:Nat):Int):=by simp
  rw [this,qas]
 have hN2:(0:Int)<=1*2^((os.map zcF).length:Int).toNat/\(1:Int)*2^((os.map zcF).length:Int).toNat<1000:=by
  rw [qax,qas,Int.one_mul]
  have:((2:Int)^os.length)=((2^os.length:Nat):Int):=by simp
  omega
 refine .of_wp fun h=> ?_
 rw [d_34,zaq]
 unfold G_34
 refine zcR (show wp (do fits 0;za2 []) h _ from ?_)
 rw [zaz (by decide),pure_bind,zeW]
 have e3:(h++[.lst []])[h.length]? = some (.lst (([]:List (Int×List Int)).map pD)):=by simp
 have kp:Kp h.length h (h++[.lst []]):=⟨by simp,fun j hj=>qac hj⟩
 generalize h++[.lst []]=h3 at e3 kp ⊢
 refine zge (ds:=(List.range (2^os.length)).map fun (b:Nat)=> .int (b:Int)) ?_ ?_
 ·have e:=zqD (zna (zte (a:=cK (.int 1)) (b:=zaC zeL (zac (cOp dIx (zag 0) (cK (.int 1))) zar)) (sd:=[some (zaR m os),some (.cel h.length),none,none,none,none,none,none]) rfl rfl (zpi (m:=((os.map zcF).length:Int)) (by omega) (by simp;omega))) (fs:=zar) rfl) (zbc hN2.1 hN2.2)
  rw [hN,zbr,qaF] at e
  exact e
 refine zdJ s _ (ps:=[]) e3 (by simp;omega) fun y2 y3 y4 y5 y6 y7 h4 e4 kp4=> ?_
 rw [List.nil_append] at e4
 have g4:Gro h h4:=Kp.gro ⟨kp4.1,fun j hj=>(kp4.2 j hj).trans (kp.2 j hj)⟩
 ac_nf0
 refine zj8 e4 ?_
 ac_nf0
 first | exact ⟨g4,trivial⟩ | exact ⟨trivial,g4⟩ | exact ⟨rfl,g4⟩ | exact ⟨g4,rfl⟩
theorem zn7 (s:Stk m os) (hf:(zaQ m os).isEmpty=true): ∃ r,zen m os=zkh m os::r:=by
 have hne:zqH m os≠[]:=fun z=>by
  obtain ⟨x,hx⟩:=List.exists_mem_of_ne_nil _ (zij s hf)
  rw [zk0 s x,z] at hx
  cases hx
 obtain ⟨r,hr⟩:=zjt hne
 exact ⟨r,by unfold zen;rw [hr, <-zl6 (zij s hf) (zk0 s)];rfl⟩
theorem zil (s:Stk m os) (hi:i<os.length):F_14 [zaR m os,.int (i:Int)]=pure .non:=by
 have ew:=zcy (d:= .int (i:Int)) rfl
 simp only [isI] at ew
 have a1: ¬(i:Int)<0:=by omega
 have a2: ¬(os.length:Int)<=(i:Int):=by omega
 rw [d_14]
 simp only [G_14]
 ac_nf0
 rw [ew]
 ac_nf0
 simp only [zr9,a1,decide_false]
 ac_nf0
 rw [zkg]
 ac_nf0
 simp only [zuA,a2,decide_false]
 ac_nf0
noncomputable def wiP (m:Int) (os:List (List Int×Int)) (i:Int):Int×List Int:=(wiL m os i).getD (zbw (wiL m os i)) (0,[])
noncomputable def woP (m:Int) (os:List (List Int×Int)) (i:Int):Int×List Int:=(woL m os i).getD (zbw (woL m os i)) (0,[])
theorem zei (s:Stk m os) (n9:os.length<=9):(zmE m os).length<=512:=by
 unfold zmE cvs
 rw [qax]
 refine qaE (List.length_filter_le _ _) ?_
 rw [ze0]
 exact Nat.pow_le_pow_right (n:=2) (by decide) n9
theorem zqw (s:Stk m os) (hf:(zaQ m os).isEmpty=true):(List.range os.length).map (fun (k:Nat)=>(k:Int))∈cvs m os:=by
 refine zln.mpr ⟨⟨zbQ _,fun y hy=>zcj y hy⟩,zhT.mpr fun t t0 t1=> ?_⟩
 obtain ⟨o,ho,hx⟩:=zjh hf t0 t1
 obtain ⟨j,hj,rfl⟩:=List.getElem_of_mem ho
 refine ⟨(j:Int),List.mem_map.mpr ⟨j,List.mem_range.mpr hj,rfl⟩,?_⟩
 rw [qas]
 simpa [List.getD,hj] using hx
theorem zri (s:Stk m os) (hf:(zaQ m os).isEmpty=true) (hi:i<os.length):wiL m os i≠[]:=
 List.ne_nil_of_mem ((zl1 (q:=(pr os ((List.range os.length).map (fun (k:Nat)=>(k:Int))),(List.range os.length).map (fun (k:Nat)=>(k:Int))))).mpr ⟨⟨zqw s hf,rfl⟩,List.mem_map.mpr ⟨i,List.mem_range.mpr hi,rfl⟩⟩)
theorem zom {ls:List Int} (h:ls∈cvs m os):Lt os ls:=(zln.mp h).1
theorem zqP (s:Stk m os) (hf:(zaQ m os).isEmpty=true) (n9:os.length<=9) (hi:i<os.length):Ev (F_22 [zaR m os,.int (i:Int)]) (tI (wiP m os i).2):=by
 have hl:=zei s n9
 have ec:zav (iSq (zaC (zat 1 fun ds=>noX (F_19 ds)) (zac (zag 0) zar))) (zaB 0) zbA zbE [none,some 1] [some (zaR m os),some (.int (i:Int))]=pure (.lst ((wiL m os i).map pD)):=by
  unfold wiL
  rw [<- zap]
  refine zaw (g':=pD) ?_ (by omega) fun q _=> ?_
  ·ac_nf0
   rw [zeK s n9]
   ac_nf0
   rfl
  ·have eb:zah [none,some 1] [some (zaR m os),some (.int (i:Int))]=[none,some (.int (i:Int))]:=rfl
   rw [eb]
   simp only [zaT,zbA,zbE,pD]
   ac_nf0
   rw [zcA]
   ac_nf0
   split<;>rfl
 refine .of_wp fun h=> ?_
 rw [d_22]
 simp only [G_22]
 ac_nf0
 rw [zil s hi]
 ac_nf0
 refine (zhV s hf).wp fun h' g=> ?_
 have ep:dIx (pD (wiP m os i)) (.int 1)=pure (tI (wiP m os i).2):=rfl
 ac_nf0
 rw [ec]
 ac_nf0
 rw [zeR (zri s hf hi),show (wiL m os i).getD (zbw (wiL m os i)) (0,[])=wiP m os i from rfl]
 ac_nf0
 rw [ep]
 ac_nf0
 first | exact ⟨trivial,g⟩ | exact ⟨g,trivial⟩ | exact g
noncomputable def woD (m:Int) (os:List (List Int×Int)) (i:Int):D:=if (woL m os i).isEmpty=true then .non else tI (woP m os i).2
theorem zka (s:Stk m os) (hf:(zaQ m os).isEmpty=true) (n9:os.length<=9) (hi:i<os.length):Ev (F_23 [zaR m os,.int (i:Int)]) (woD m os i):=by
 have hl:=zei s n9
 have ec:zav (iSq (zaC (zat 1 F_19) (zac (zag 0) zar))) (zaB 0) za6 za7 [none,some 1] [some (zaR m os),some (.int (i:Int)),none]=pure (.lst ((woL m os i).map pD)):=by
  unfold woL
  rw [<- zap]
  refine zaw (g':=pD) ?_ (by omega) fun q _=> ?_
  ·ac_nf0
   rw [zeK s n9]
   ac_nf0
   rfl
  ·have eb:zah [none,some 1] [some (zaR m os),some (.int (i:Int)),none]=[none,some (.int (i:Int))]:=rfl
   rw [eb]
   simp only [zaT,za6,za7,pD]
   ac_nf0
   rw [zd3]
   ac_nf0
   split<;>rfl
 refine .of_wp fun h=> ?_
 rw [d_23]
 simp only [G_23]
 ac_nf0
 rw [zil s hi]
 ac_nf0
 refine (zhV s hf).wp fun h' g=> ?_
 ac_nf0
 rw [ec]
 ac_nf0
 unfold woD
 cases hw:woL m os i with
 | nil=>
  simp only [L3.zqX,zt3,zlO,List.map_nil]
  ac_nf0
  simp only [List.isEmpty_nil]
  ac_nf0
  first | exact ⟨trivial,g⟩ | exact ⟨g,trivial⟩ | exact g
 | cons q r=>
  have hne:woL m os i≠[]:=by rw [hw];exact List.cons_ne_nil _ _
  have ep:dIx (pD (woP m os i)) (.int 1)=pure (tI (woP m os i).2):=rfl
  have em:=zeR hne
  rw [hw] at em
  simp only [L3.zqX,zt3,zlO,qaz] at em ⊢
  ac_nf0
  simp only [List.isEmpty_cons]
  ac_nf0
  rw [em, <-hw,show (woL m os i).getD (zbw (woL m os i)) (0,[])=woP m os i from rfl]
  ac_nf0
  rw [ep]
  ac_nf0
  first | exact ⟨trivial,g⟩ | exact ⟨g,trivial⟩ | exact g
theorem zoz (s:Stk m os) (hf:(zaQ m os).isEmpty=true) (hi:i<os.length):zmC (wiL m os i) (wiP m os i).1/\(wiP m os i).2∈cvs m os/\(wiP m os i).1=pr os (wiP m os i).2:=by
 obtain ⟨h1,h2⟩:=zi9 (zri s hf hi)
 have h3:=(zl1.mp h2).1
 exact ⟨h1,h3.1,h3.2⟩
theorem zoH (hn:woL m os (i:Int)≠[]):zmC (woL m os i) (woP m os i).1/\(woP m os i).2∈cvs m os/\(woP m os i).1=pr os (woP m os i).2:=by
 obtain ⟨h1,h2⟩:=zi9 hn
 have h3:=(zoh.mp h2).1
 exact ⟨h1,h3.1,h3.2⟩
noncomputable def zhh (m:Int) (os:List (List Int×Int)) (i:Nat):D:=if (woL m os i).isEmpty=true then .non else .int ((woP m os i).1 - ((wiP m os i).1 - (os.getD i ([],0)).2))
theorem ziP (s:Stk m os) (hf:(zaQ m os).isEmpty=true) (n9:os.length<=9) (hi:i<os.length):Ev (F_24 [zaR m os,.int (i:Int)]) (zhh m os i):=by
 obtain ⟨w1,w2,w3⟩:=zoz s hf hi
 have ep:=zjf s (zom w2)
 rw [<- w3] at ep
 have ea:=zeQ (os:=os) (i:=(i:Int)) (by omega) (by omega)
 rw [qas] at ea
 have ew:=zqP s hf n9 hi
 have eo:=zka s hf n9 hi
 refine .of_wp fun h=> ?_
 rw [d_24]
 simp only [G_24]
 simp only [tI] at ep ew
 ac_nf0
 refine eo.wp fun h1 g1=> ?_
 ac_nf0
 unfold woD zhh
 cases hw:(woL m os i).isEmpty with
 | true=>
  have e1:zqW .non .non=pure (.bl true):=rfl
  ac_nf0
  rw [e1]
  ac_nf0
  first | exact ⟨trivial,g1⟩ | exact ⟨g1,trivial⟩ | exact g1
 | false=>
  have hn:woL m os (i:Int)≠[]:=fun z=>by rw [z] at hw;cases hw
  obtain ⟨v1,v2,v3⟩:=zoH hn
  have ev:=zjf s (zom v2)
  rw [<- v3] at ev
  have e1: ∀ ds:List D,zqW (.tup ds) .non=pure (.bl false):=fun _=>rfl
  simp only [tI] at ev
  ac_nf0
  rw [e1]
  ac_nf0
  refine ew.wp fun h2 g2=> ?_
  ac_nf0
  rw [ep]
  ac_nf0
  rw [zkg]
  ac_nf0
  rw [ea]
  ac_nf0
  rw [ev]
  ac_nf0
  first | exact ⟨trivial,g1.trans g2⟩ | exact ⟨g1.trans g2,trivial⟩ | exact g1.trans g2
noncomputable def chL (m:Int) (os:List (List Int×Int)):List (List Int):=((zmE m os).filter fun q=>q.1==(zkh m os).1).map (·.2)
theorem zpr {ls:List Int}:ls∈chL m os↔ ∃ q∈zmE m os,q.1=(zkh m os).1/\q.2=ls:=by
 unfold chL
 rw [List.mem_map]
 constructor
 ·rintro ⟨q,hq,rfl⟩
  obtain ⟨h1,h2⟩:=List.mem_filter.mp hq
  exact ⟨q,h1,by simpa using h2,rfl⟩
 ·rintro ⟨q,hq,e,rfl⟩
  exact ⟨q,List.mem_filter.mpr ⟨hq,by simpa using e⟩,rfl⟩
theorem zlP (s:Stk m os) (n9:os.length<=9):(chL m os).length<=512:=by
 unfold chL
 rw [qax]
 exact qaE (List.length_filter_le _ _) (zei s n9)
theorem zoV (s:Stk m os) (hf:(zaQ m os).isEmpty=true) (n9:os.length<=9):Ev (F_27 [zaR m os]) (.lst ((chL m os).map tI)):=by
 have hl:=zei s n9
 have ec:zav (iSq (zag 1)) (zaB 0) zbe zbf [none,some 2] [some (zaR m os),some (.lst ((zgC m os).map pD)),some (.int (zkh m os).1)]=pure (.lst ((chL m os).map tI)):=by
  unfold chL
  rw [qaF, <-zap]
  refine zaw (g':=pD) (xs:=zmE m os) rfl (by omega) fun q _=> ?_
  have eb:zah [none,some 2] [some (zaR m os),some (.lst ((zgC m os).map pD)),some (.int (zkh m os).1)]=[none,some (.int (zkh m os).1)]:=rfl
  rw [eb]
  simp only [zaT,zbe,zbf,pD]
  ac_nf0
  rw [zqV]
  ac_nf0
  split<;>rfl
 have ep:dIx (pD (zkh m os)) (.int 0)=pure (.int (zkh m os).1):=rfl
 refine .of_wp fun h=> ?_
 rw [d_27]
 simp only [G_27]
 ac_nf0
 refine (zhV s hf).wp fun h' g=> ?_
 ac_nf0
 rw [zeK s n9]
 ac_nf0
 rw [zeR (zij s hf),show (zgC m os).getD (zbw (zgC m os)) (0,[])=zkh m os from rfl]
 ac_nf0
 rw [ep]
 ac_nf0
 rw [ec]
 ac_nf0
 first | exact ⟨trivial,g⟩ | exact ⟨g,trivial⟩ | exact g
theorem znn:(zqH m os).Perm (zgC m os):=by
 have e:zqH m os=(((List.range (2^os.length)).map (zdM os.length)).filter (cvB m os)).map fun ls=>(pr os ls,ls):=by
  unfold zqH
  rw [<- zap,List.filterMap_map]
  rfl
 rw [e]
 unfold zgC
 exact ((zlC os.length).filter _).map _
theorem zjj:(zen m os).Perm (zgC m os):=(TS.zcX _ _).trans znn
theorem znF (n9:os.length<=9):(zgC m os).length<=512:=by
 unfold zgC
 rw [qax]
 refine qaE (List.length_filter_le _ _) ?_
 rw [ze0]
 exact Nat.pow_le_pow_right (n:=2) (by decide) n9
theorem zgv (n9:os.length<=9):(zen m os).length<=512:=by
 rw [(zjj (m:=m) (os:=os)).length_eq]
 exact znF n9
theorem zgl {q:Int×List Int}:q∈zen m os↔q∈zmE m os:=(zjj (m:=m) (os:=os)).mem_iff
theorem zoI:(zen m os).Pairwise fun a b=>a.1<=b.1:=znV _
noncomputable def roL (m:Int) (os:List (List Int×Int)) (i:Nat):List (Int×List Int):=(zen m os).filter fun q=> !(q.2.any (· == (i:Int)))
noncomputable def riL (m:Int) (os:List (List Int×Int)) (i:Nat):List (Int×List Int):=(zen m os).filter fun q=>q.2.any (· == (i:Int))
theorem ziE {q:Int×List Int}:q∈roL m os i↔q∈woL m os i:=by
 unfold roL
 rw [List.mem_filter,zgl,zeo,zoh,Bool.not_eq_true', <-Bool.not_eq_true,zja]
theorem zoA {q:Int×List Int}:q∈riL m os i↔q∈wiL m os i:=by
 unfold riL
 rw [List.mem_filter,zgl,zeo,zl1,zja]
theorem zq5:(roL m os i).isEmpty=(woL m os i).isEmpty:=by
 rw [Bool.eq_iff_iff,List.isEmpty_iff,List.isEmpty_iff,List.eq_nil_iff_forall_not_mem,List.eq_nil_iff_forall_not_mem]
 exact ⟨fun h q hq=>h q (ziE.mpr hq),fun h q hq=>h q (ziE.mp hq)⟩
theorem zlQ (n9:os.length<=9) {s0 s1 s2 s4 s6 s7 s8 s9 s10 s11 s12 s13 s14:Option D}:zav (iSq (zag 3)) (zee 2 (zbi (zaB 0) (zbi (zaB 1) zef))) zhW ziv [none,none,some 5] [s0,s1,s2,some (.lst ((zen m os).map pD)),s4,some (.int (i:Int)),s6,s7,s8,s9,s10,s11,s12,s13,s14]=pure (.lst (((roL m os i).map (·.1)).map D.int)):=by
 unfold roL
 rw [qaF, <-zap]
 have hl:=zgv (m:=m) n9
 refine zaw (g':=pD) rfl (by omega) fun q _=> ?_
 have eb:zah [none,none,some 5] [s0,s1,s2,some (.lst ((zen m os).map pD)),s4,some (.int (i:Int)),s6,s7,s8,s9,s10,s11,s12,s13,s14]=[none,none,some (.int (i:Int))]:=rfl
 rw [eb]
 simp only [zaT,zhW,ziv,pD]
 ac_nf0
 rw [zd3]
 ac_nf0
 split<;>rfl
theorem znI (n9:os.length<=9) (hi:i<os.length) {s0 s1 s4 s6 s7 s8 s9 s10 s11 s12 s13 s14:Option D}:zav (iSq (zag 3)) (zee 2 (zbi (zaB 0) (zbi (zaB 1) zef))) zit zh5 [none,none,some 5,some 2] [s0,s1,some (zaR m os),some (.lst ((zen m os).map pD)),s4,some (.int (i:Int)),s6,s7,s8,s9,s10,s11,s12,s13,s14]=pure (.lst (((riL m os i).map fun q=>q.1 - (os.getD i ([],0)).2).map D.int)):=by
 unfold riL
 rw [qaF, <-zap]
 have hl:=zgv (m:=m) n9
 have ea:=zeQ (os:=os) (i:=(i:Int)) (by omega) (by omega)
 rw [qas] at ea
 refine zaw (g':=pD) rfl (by omega) fun q _=> ?_
 have eb:zah [none,none,some 5,some 2] [s0,s1,some (zaR m os),some (.lst ((zen m os).map pD)),s4,some (.int (i:Int)),s6,s7,s8,s9,s10,s11,s12,s13,s14]=[none,none,some (.int (i:Int)),some (zaR m os)]:=rfl
 rw [eb]
 simp only [zaT,zit,zh5,pD]
 ac_nf0
 rw [zcA]
 ac_nf0
 split
 ·rw [zkg]
  ac_nf0
  rw [ea]
  ac_nf0
  rfl
 ·rfl
theorem zlo {d:D} (k:kn d=true):F_35 [d]=pure (.bl (isI d)):=by
 rw [d_35]
 simp only [G_35,zck,zkZ,zmP,zaP,pure_bind,bind_assoc,zld k,zoX k,zde,zls]
 cases d<;>simp [isI]
theorem znw (s:Stk m os) (hf:(zaQ m os).isEmpty=true) (n9:os.length<=9) (hi:i<os.length) {s0 s1 s4 s9 s10 s11 s12 s13 s14 x6 x7 x8:Option D} {h:Hh} {P:Out->Hh->Prop}
  (k: ∀ y6 y7 y8 h',P (.nx [s0,s1,some (zaR m os),some (.lst ((zen m os).map pD)),s4,some (.int (i:Int)),y6,y7,y8,s9,s10,s11,s12,s13,s14]) h'):
  wp (zeB [s0,s1,some (zaR m os),some (.lst ((zen m os).map pD)),s4,some (.int (i:Int)),x6,x7,x8,s9,s10,s11,s12,s13,s14]) h P:=by
 simp only [zeB]
 ac_nf0
 rw [zlQ n9]
 ac_nf0
 rw [znI n9 hi]
 ac_nf0
 refine (ziP s hf n9 hi).wp fun h1 g1=> ?_
 ac_nf0
 have eq0:=znN ((roL m os i).map (·.1)) []
 rw [List.map_nil] at eq0
 rw [eq0]
 ac_nf0
 unfold zhh
 rw [<- zq5]
 cases hr:roL m os i with
 | nil=>
  have e2:zpZ .non .non=pure (.bl false):=rfl
  simp only [List.map_nil,List.isEmpty_nil,beq_self_eq_true]
  ac_nf0
  rw [e2]
  ac_nf0
  exact k _ _ _ _
 | cons q r=>
  have hn:woL m os (i:Int)≠[]:=List.ne_nil_of_mem (ziE.mp (show q∈roL m os i by rw [hr];exact qan))
  have v1:=(zoH hn).1
  have m1:=(zi3 (zoI (m:=m) (os:=os)) (show (zen m os).filter (fun q=> !(q.2.any (· == (i:Int))))=q::r from hr)).congr (qs:=woL m os i) fun q=>ziE
  have e1:=v1.uniq m1
  obtain ⟨w1,w2,w3⟩:=zoz s hf hi
  have hne:riL m os i≠[]:=fun z=>by
   obtain ⟨⟨x,hx,_⟩,_⟩:=w1
   rw [<- zoA,z] at hx
   cases hx
  obtain ⟨q',r',hr'⟩:=List.exists_cons_of_ne_nil hne
  have m2:=(zi3 (zoI (m:=m) (os:=os)) (show (zen m os).filter (fun q=>q.2.any (· == (i:Int)))=q'::r' from hr')).congr (qs:=wiL m os i) fun q=>zoA
  have e3:=w1.uniq m2
  rw [hr',e1,e3]
  have b0:(List.map (fun x:Int×List Int=>x.1) (q::r)==[])=false:=rfl
  simp only [qaz,List.isEmpty_cons] at b0 ⊢
  rw [b0]
  ac_nf0
  rw [zlo rfl]
  simp only [isI]
  ac_nf0
  rw [zuW,show q.1 - (q'.1 - (os.getD i ([],0)).2)=q.1 - (q'.1 - (os.getD i ([],0)).2) from rfl]
  simp only [beq_self_eq_true]
  ac_nf0
  exact k _ _ _ _
noncomputable def zdx (m:Int) (os:List (List Int×Int)):List Int:=((List.range os.length).filter fun (j:Nat)=>(chL m os).any fun ls=>ls.any (· == (j:Int))).map fun (j:Nat)=>(j:Int)
noncomputable def zkH (m:Int) (os:List (List Int×Int)):List Int:=((List.range os.length).filter fun (j:Nat)=>(chL m os).all fun ls=>ls.any (· == (j:Int))).map fun (j:Nat)=>(j:Int)
theorem zpj (s:Stk m os) (hf:(zaQ m os).isEmpty=true) (n9:os.length<=9) {h:Hh} {P:D->Hh->Prop} (k: ∀ h1,Gro h h1->P (.cel h1.length) (h1++[.lst ((zdx m os).map D.int)])):wp (F_25 [zaR m os]) h P:=by
 have hl:=zlP s n9
 have ec:zav (zed (zac (zaC zeL (zac (cOp dIx (zag 0) (cK (.int 1))) zar)) zar)) (zaB 0) zdj zdn [none,some 1] [some (zaR m os),some (.lst ((chL m os).map tI))]=pure (.lst ((((List.range os.length).filter fun (j:Nat)=>(chL m os).any fun ls=>ls.any (· == (j:Int))).map fun (j:Nat)=>(j:Int)).map D.int)):=by
  rw [qaF, <-zap]
  refine zaw (g':=fun (j:Nat)=> .int (j:Int)) ?_ (by simp;omega) fun j _=> ?_
  ·ac_nf0
   rw [zkg]
   ac_nf0
   rw [zbc (by omega) (by omega),qas,zbr,qaF]
   rfl
  ·have eb:zah [none,some 1] [some (zaR m os),some (.lst ((chL m os).map tI))]=[none,some (.lst ((chL m os).map tI))]:=rfl
   have ei:zav (iSq (zag 1)) (zaB 0) (fun _=>pure true) zdi [none,some 0] [some (.int (j:Int)),some (.lst ((chL m os).map tI))]=pure (.lst (((chL m os).map fun ls=>ls.any (· == (j:Int))).map D.bl)):=by
    rw [show ((chL m os).map fun ls=>ls.any (· == (j:Int))).map D.bl=(chL m os).filterMap fun ls=>some (.bl (ls.any (· == (j:Int)))) by simp]
    refine zaw (g':=tI) rfl (by omega) fun ls _=> ?_
    have eb:zah [none,some 0] [some (.int (j:Int)),some (.lst ((chL m os).map tI))]=[none,some (.int (j:Int))]:=rfl
    rw [eb]
    simp only [zaT,zdi]
    ac_nf0
    rw [zcA]
    ac_nf0
   rw [eb]
   simp only [zaT,zdj,zdn]
   ac_nf0
   rw [ei]
   ac_nf0
   rw [zpx,List.any_map]
   ac_nf0
   show (if ((chL m os).any fun ls=>ls.any (· == (j:Int)))=true then _ else _)=_
   split<;>rfl
 have ec:=ziA ec
 rw [d_25]
 simp only [G_25]
 ac_nf0
 refine (zoV s hf n9).wp fun h' g=> ?_
 ac_nf0
 rw [ec,zeW]
 ac_nf0
 exact k _ g
theorem zs2 (s:Stk m os) (hf:(zaQ m os).isEmpty=true) (n9:os.length<=9) {h:Hh} {P:D->Hh->Prop} (k: ∀ h1,Gro h h1->P (.cel h1.length) (h1++[.lst ((zkH m os).map D.int)])):wp (F_26 [zaR m os]) h P:=by
 have hl:=zlP s n9
 have ec:zav (zed (zac (zaC zeL (zac (cOp dIx (zag 0) (cK (.int 1))) zar)) zar)) (zaB 0) zdL zdG [none,some 1] [some (zaR m os),some (.lst ((chL m os).map tI))]=pure (.lst ((((List.range os.length).filter fun (j:Nat)=>(chL m os).all fun ls=>ls.any (· == (j:Int))).map fun (j:Nat)=>(j:Int)).map D.int)):=by
  rw [qaF, <-zap]
  refine zaw (g':=fun (j:Nat)=> .int (j:Int)) ?_ (by simp;omega) fun j _=> ?_
  ·ac_nf0
   rw [zkg]
   ac_nf0
   rw [zbc (by omega) (by omega),qas,zbr,qaF]
   rfl
  ·have eb:zah [none,some 1] [some (zaR m os),some (.lst ((chL m os).map tI))]=[none,some (.lst ((chL m os).map tI))]:=rfl
   have ei:zav (iSq (zag 1)) (zaB 0) (fun _=>pure true) zdW [none,some 0] [some (.int (j:Int)),some (.lst ((chL m os).map tI))]=pure (.lst (((chL m os).map fun ls=>ls.any (· == (j:Int))).map D.bl)):=by
    rw [show ((chL m os).map fun ls=>ls.any (· == (j:Int))).map D.bl=(chL m os).filterMap fun ls=>some (.bl (ls.any (· == (j:Int)))) by simp]
    refine zaw (g':=tI) rfl (by omega) fun ls _=> ?_
    have eb:zah [none,some 0] [some (.int (j:Int)),some (.lst ((chL m os).map tI))]=[none,some (.int (j:Int))]:=rfl
    rw [eb]
    simp only [zaT,zdW]
    ac_nf0
    rw [zcA]
    ac_nf0
   rw [eb]
   simp only [zaT,zdL,zdG]
   ac_nf0
   rw [ei]
   ac_nf0
   rw [zp2,List.all_map]
   ac_nf0
   show (if ((chL m os).all fun ls=>ls.any (· == (j:Int)))=true then _ else _)=_
   split<;>rfl
 have ec:=ziA ec
 rw [d_26]
 simp only [G_26]
 ac_nf0
 refine (zoV s hf n9).wp fun h' g=> ?_
 ac_nf0
 rw [ec,zeW]
 ac_nf0
 exact k _ g
noncomputable def zbW (m:Int) (os:List (List Int×Int)):List (List Int):=((zen m os).filter fun q=>q.1==(zkh m os).1).map (·.2)
noncomputable def cnt (m:Int) (os:List (List Int×Int)) (j:Nat):Nat:=((zbW m os).filter fun ls=>ls.any (· == (j:Int))).length
theorem zlF (n9:os.length<=9):(zbW m os).length<=512:=by
 unfold zbW
 rw [qax]
 exact qaE (List.length_filter_le _ _) (zgv n9)
theorem zes {ls:List Int}:ls∈zbW m os↔ls∈chL m os:=by
 unfold zbW
 rw [zpr,List.mem_map]
 constructor
 ·rintro ⟨q,hq,rfl⟩
  obtain ⟨h1,h2⟩:=List.mem_filter.mp hq
  exact ⟨q,zgl.mp h1,by simpa using h2,rfl⟩
 ·rintro ⟨q,hq,e,rfl⟩
  exact ⟨q,List.mem_filter.mpr ⟨zgl.mpr hq,by simpa using e⟩,rfl⟩
theorem znB {j:Nat}:decide (0<(cnt m os j:Int))=(chL m os).any fun ls=>ls.any (· == (j:Int)):=by
 rw [Bool.eq_iff_iff,qau,List.any_eq_true]
 unfold cnt
 constructor
 ·intro h
  obtain ⟨ls,hl⟩:=List.exists_mem_of_length_pos (l:=(zbW m os).filter fun ls=>ls.any (· == (j:Int))) (by omega)
  obtain ⟨h1,h2⟩:=List.mem_filter.mp hl
  exact ⟨ls,zes.mp h1,h2⟩
 ·rintro ⟨ls,h1,h2⟩
  have:=List.length_pos_of_mem ((List.mem_filter (p:=fun ls=>ls.any (· == (j:Int)))).mpr ⟨zes.mpr h1,h2⟩)
  omega
theorem zqp {j:Nat}:((cnt m os j:Int)==((zbW m os).length:Int))=(chL m os).all fun ls=>ls.any (· == (j:Int)):=by
 rw [Bool.eq_iff_iff,beq_iff_eq,List.all_eq_true,Int.ofNat_inj]
 unfold cnt
 rw [List.length_filter_eq_length_iff]
 exact ⟨fun h ls hl=>h ls (zes.mpr hl),fun h ls hl=>h ls (zes.mp hl)⟩
theorem zkJ (s:Stk m os) (hf:(zaQ m os).isEmpty=true) (n9:os.length<=9) {s0 s1 s2 s4 s5 s6 s7 s8 s9 s10 s11 s12 s13 s14:Option D}:zav (iSq (zag 3)) (zee 2 (zbi (zaB 0) (zbi (zaB 1) zef))) zh0 zhN [none,none,some 3] [s0,s1,s2,some (.lst ((zen m os).map pD)),s4,s5,s6,s7,s8,s9,s10,s11,s12,s13,s14]=pure (.lst ((zbW m os).map tI)):=by
 unfold zbW
 rw [qaF, <-zap]
 have hl:=zgv (m:=m) n9
 obtain ⟨r,hr⟩:=zn7 s hf
 refine zaw (g':=pD) rfl (by omega) fun q _=> ?_
 have eb:zah [none,none,some 3] [s0,s1,s2,some (.lst ((zen m os).map pD)),s4,s5,s6,s7,s8,s9,s10,s11,s12,s13,s14]=[none,none,some (.lst ((zen m os).map pD))]:=rfl
 have ep:dIx (pD (zkh m os)) (.int 0)=pure (.int (zkh m os).1):=rfl
 rw [eb,hr,qaz]
 simp only [zaT,zh0,zhN]
 rw [show pD q= .tup [.int q.1,tI q.2] from rfl]
 ac_nf0
 rw [ep]
 ac_nf0
 rw [zso]
 ac_nf0
 split<;>rfl
theorem znS (n9:os.length<=9) {s0 s1 s2 s3 s5 s6 s7 s8 s10 s11 s12 s13 s14:Option D}:zav (zed (zac (zag 4) zar)) (zaB 0) (fun _=>pure true) zik [none,some 9] [s0,s1,s2,s3,some (.int (os.length:Int)),s5,s6,s7,s8,some (.lst ((zbW m os).map tI)),s10,s11,s12,s13,s14]=pure (.lst ((List.range os.length).map fun j=> .int (cnt m os j:Int))):=by
 have hl:=zlF (m:=m) n9
 rw [show (List.range os.length).map (fun j=>D.int (cnt m os j:Int))=(List.range os.length).filterMap fun j=>some (.int (cnt m os j:Int)) by simp]
 refine zaw (g':=fun (j:Nat)=> .int (j:Int)) ?_ (by simp;omega) fun j _=> ?_
 ·ac_nf0
  rw [zbc (by omega) (by omega),qas,zbr,qaF]
  rfl
 ·have eb:zah [none,some 9] [s0,s1,s2,s3,some (.int (os.length:Int)),s5,s6,s7,s8,some (.lst ((zbW m os).map tI)),s10,s11,s12,s13,s14]=[none,some (.lst ((zbW m os).map tI))]:=rfl
  have ei:zav (iSq (zag 1)) (zaB 0) zh1 zim [none,some 0] [some (.int (j:Int)),some (.lst ((zbW m os).map tI))]=pure (.lst (((zbW m os).filter fun ls=>ls.any (· == (j:Int))).map tI)):=by
   rw [<- zap]
   refine zaw (g':=tI) rfl (by omega) fun ls _=> ?_
   have eb:zah [none,some 0] [some (.int (j:Int)),some (.lst ((zbW m os).map tI))]=[none,some (.int (j:Int))]:=rfl
   rw [eb]
   simp only [zaT,zh1,zim]
   ac_nf0
   rw [zcA]
   ac_nf0
   split<;>rfl
  rw [eb]
  simp only [zaT,zik]
  ac_nf0
  rw [ei]
  ac_nf0
  rfl
theorem zor {j n:Nat} (hj:j<n):atI ((List.range n).map fun j=>D.int (cnt m os j:Int)) (j:Int)=some (.int (cnt m os j:Int)):=zgr (by simp [hj])
theorem zn2 (n9:os.length<=9) {s0 s1 s2 s3 s5 s6 s7 s8 s9 s11 s12 s13 s14:Option D}:zav (zed (zac (zag 4) zar)) (zaB 0) zhH zio [none,some 10] [s0,s1,s2,s3,some (.int (os.length:Int)),s5,s6,s7,s8,s9,some (.lst ((List.range os.length).map fun j=> .int (cnt m os j:Int))),s11,s12,s13,s14]=pure (.lst ((zdx m os).map D.int)):=by
 unfold zdx
 rw [qaF, <-zap]
 refine zaw (g':=fun (j:Nat)=> .int (j:Int)) ?_ (by simp;omega) fun j hj=> ?_
 ·ac_nf0
  rw [zbc (by omega) (by omega),qas,zbr,qaF]
  rfl
 ·have eb:zah [none,some 10] [s0,s1,s2,s3,some (.int (os.length:Int)),s5,s6,s7,s8,s9,some (.lst ((List.range os.length).map fun j=> .int (cnt m os j:Int))),s11,s12,s13,s14]=[none,some (.lst ((List.range os.length).map fun j=> .int (cnt m os j:Int)))]:=rfl
  rw [eb]
  simp only [zaT,zhH,zio]
  ac_nf0
  rw [zor (List.mem_range.mp hj)]
  ac_nf0
  rw [znB]
  split<;>rfl
theorem zqz (n9:os.length<=9) {s0 s1 s2 s3 s5 s6 s7 s8 s11 s12 s13 s14:Option D}:zav (zed (zac (zag 4) zar)) (zaB 0) ziu zh7 [none,some 10,some 9] [s0,s1,s2,s3,some (.int (os.length:Int)),s5,s6,s7,s8,some (.lst ((zbW m os).map tI)),some (.lst ((List.range os.length).map fun j=> .int (cnt m os j:Int))),s11,s12,s13,s14]=pure (.lst ((zkH m os).map D.int)):=by
 unfold zkH
 rw [qaF, <-zap]
 refine zaw (g':=fun (j:Nat)=> .int (j:Int)) ?_ (by simp;omega) fun j hj=> ?_
 ·ac_nf0
  rw [zbc (by omega) (by omega),qas,zbr,qaF]
  rfl
 ·have eb:zah [none,some 10,some 9] [s0,s1,s2,s3,some (.int (os.length:Int)),s5,s6,s7,s8,some (.lst ((zbW m os).map tI)),some (.lst ((List.range os.length).map fun j=> .int (cnt m os j:Int))),s11,s12,s13,s14]=[none,some (.lst ((List.range os.length).map fun j=> .int (cnt m os j:Int))),some (.lst ((zbW m os).map tI))]:=rfl
  rw [eb]
  simp only [zaT,ziu,zh7]
  ac_nf0
  rw [zor (List.mem_range.mp hj)]
  ac_nf0
  rw [zso]
  ac_nf0
  rw [zqp]
  split<;>rfl
theorem zpK (s:Stk m os) (hf:(zaQ m os).isEmpty=true) (n9:os.length<=9) {s0 s1 s3 s5 s6 s7 s8 s11 x12 x13 x14:Option D} {h:Hh} {P:Out->Hh->Prop}
  (k: ∀ y12 y13 y14 h',P (.nx [s0,s1,some (zaR m os),s3,some (.int (os.length:Int)),s5,s6,s7,s8,some (.lst ((zbW m os).map tI)),some (.lst ((List.range os.length).map fun j=> .int (cnt m os j:Int))),s11,y12,y13,y14]) h'):
  wp (zeD [s0,s1,some (zaR m os),s3,some (.int (os.length:Int)),s5,s6,s7,s8,some (.lst ((zbW m os).map tI)),some (.lst ((List.range os.length).map fun j=> .int (cnt m os j:Int))),s11,x12,x13,x14]) h P:=by
 have es:(zdx m os).length<=9:=by
  unfold zdx
  rw [qax]
  exact qaE (List.length_filter_le _ _) (by simpa using n9)
 have ea:(zkH m os).length<=9:=by
  unfold zkH
  rw [qax]
  exact qaE (List.length_filter_le _ _) (by simpa using n9)
 have f1:=zaz (show (zdx m os).length+1<=1000 by omega)
 have f2:=zaz (show (zkH m os).length+1<=1000 by omega)
 simp only [zeD]
 ac_nf0
 refine zpj s hf n9 fun h1 g1=> ?_
 ac_nf0
 refine zs2 s hf n9 fun h2 g2=> ?_
 obtain ⟨t,rfl⟩:=g2
 have q1:((h1++[C.lst ((zdx m os).map D.int)]++t)++[C.lst ((zkH m os).map D.int)])[h1.length]? = some (.lst ((zdx m os).map D.int)):=by simp
 have q2:((h1++[C.lst ((zdx m os).map D.int)]++t)++[C.lst ((zkH m os).map D.int)])[(h1++[C.lst ((zdx m os).map D.int)]++t).length]? = some (.lst ((zkH m os).map D.int)):=by simp
 have hne:h1.length≠(h1++[C.lst ((zdx m os).map D.int)]++t).length:=by simp
 generalize (h1++[C.lst ((zdx m os).map D.int)]++t)++[C.lst ((zkH m os).map D.int)]=h3 at q1 q2 ⊢
 generalize (h1++[C.lst ((zdx m os).map D.int)]++t).length=b at q2 hne ⊢
 generalize h1.length=a at q1 hne ⊢
 ac_nf0
 rw [zn2 n9]
 ac_nf0
 refine zoC q1 ?_
 ac_nf0
 refine zjb q1 ?_
 ac_nf0
 rw [zqz n9]
 ac_nf0
 refine zoC q2 ?_
 ac_nf0
 refine zjb q2 ?_
 have q3:(h3.set a (.lst ((zdx m os).map D.int++[.int 0])))[b]? = some (.lst ((zkH m os).map D.int)):=by
  rw [qak hne]
  exact q2
 ac_nf0
 simp only [zcv,zdb,zcb]
 ac_nf0
 simp only [zcL q1,zaq,zam,qax,f1,zfM,pure_bind,zdb,zcb]
 ac_nf0
 simp only [zcL q3,zaq,zam,qax,f2,zfM,pure_bind,zdb,zcb]
 ac_nf0
 exact k _ _ _ _
theorem zum:F_36 [.exn "NotFull"]=pure (.str "full"):=by
 funext h
 rfl
theorem ztQ:F_36 [.exn "NoOffer"]=pure (.str "offer"):=by
 funext h
 rfl
noncomputable def zrR (n:Nat):List D:=[.int (n:Int),.int (-1),.bl true,.non]
theorem zqL {d:D} (hd:d∈zrR os.length):F_14 [zaR m os,d]=zfS "NoOffer":=by
 rw [d_14]
 simp only [G_14]
 ac_nf0
 simp only [zrR,List.mem_cons,qaw,or_false] at hd
 rcases hd with rfl | rfl | rfl | rfl
 ·rw [zcy rfl]
  simp only [isI]
  ac_nf0
  rw [zr9,show decide ((os.length:Int)<0)=false by rw [decide_eq_false_iff_not];omega]
  ac_nf0
  rw [zkg]
  ac_nf0
  rw [zuA,show decide ((os.length:Int)<=(os.length:Int))=true by simp]
  ac_nf0
 ·rw [zcy rfl]
  simp only [isI]
  ac_nf0
  rw [zr9,show decide ((-1:Int)<0)=true by decide]
  ac_nf0
 ·rw [zcy rfl]
  simp only [isI]
  ac_nf0
 ·rw [zcy rfl]
  simp only [isI]
  ac_nf0
theorem zmV {d:D} (hd:d∈zrR os.length):EvX (F_24 [zaR m os,d]) "NoOffer":=by
 rw [d_24]
 simp only [G_24]
 ac_nf0
 refine EvX.left ?_
 rw [d_23]
 simp only [G_23]
 ac_nf0
 exact EvX.left (.of (zqL hd))
theorem zjE (s:Stk m os) (hf:(zaQ m os).isEmpty=false) (hi:i<os.length):EvX (F_24 [zaR m os,.int (i:Int)]) "NotFull":=by
 rw [d_24]
 simp only [G_24]
 ac_nf0
 refine EvX.left ?_
 rw [d_23]
 simp only [G_23]
 ac_nf0
 rw [zil s hi]
 ac_nf0
 exact EvX.left (zpb s hf)
theorem zox {c:String} {d w:D} (hx:EvX (F_24 [zaR m os,d]) c) (hc:zdd.contains c=true) (hk:F_36 [.exn c]=pure w):Ev (F_37 [zaR m os,d]) w:=by
 rw [d_37]
 simp only [G_37,zaY,zb6,zgA,pure_bind,zg0,List.set,bind_assoc]
 have eg: ∀ sd':Sd,zdl (zaC (zat 2 F_24) (zac (zag 0) (zac (zag 1) zar))) (some (zaR m os)::some d::sd')=(do let _<-F_24 [zaR m os,d];pure (.nx (some (zaR m os)::some d::sd'))):=fun _=>rfl
 exact Ev.bind (znE (c:=c) (d:=w) (by rw [eg];exact EvX.left hx) hc hk) (.of rfl)
theorem zeE (s:Stk m os) (hf:(zaQ m os).isEmpty=true) (n9:os.length<=9) {s0 s1 s4 s9 s10 s11 s12 s13 s14:Option D}: ∀ (is:List Nat) {h:Hh} {x5 x6 x7 x8:Option D} {P:Out->Hh->Prop},(∀ i∈is,i<os.length)->
  (∀ y5 y6 y7 y8 h',P (.nx [s0,s1,some (zaR m os),some (.lst ((zen m os).map pD)),s4,y5,y6,y7,y8,s9,s10,s11,s12,s13,s14]) h')->
  wp (zaS (fun x sd=>do let sd1<-zaB 5 x sd;zeB sd1) (is.map fun (i:Nat)=> .int (i:Int)) [s0,s1,some (zaR m os),some (.lst ((zen m os).map pD)),s4,x5,x6,x7,x8,s9,s10,s11,s12,s13,s14]) h P
 | [],h,x5,x6,x7,x8,P,_,k=>by
  rw [List.map_nil,zb4,zam]
  exact k _ _ _ _ _
 | i::r,h,x5,x6,x7,x8,P,hi,k=>by
  have ih:=fun (h:Hh) (x5 x6 x7 x8:Option D)=>zeE s hf n9 (s0:=s0) (s1:=s1) (s4:=s4) (s9:=s9) (s10:=s10) (s11:=s11) (s12:=s12) (s13:=s13) (s14:=s14) r (h:=h) (x5:=x5) (x6:=x6) (x7:=x7) (x8:=x8) (P:=P) (fun y hy=>hi y (qaj _ hy)) k
  rw [qaz,zbC]
  generalize zaS (fun x sd=>do let sd1<-zaB 5 x sd;zeB sd1) (r.map fun (i:Nat)=> .int (i:Int))=rest at ih ⊢
  rw [zaq,zcE,pure_bind]
  exact znw s hf n9 (hi i qan) fun y6 y7 y8 h'=>ih _ _ _ _ _
theorem zfB (s:Stk m os) (hf:(zaQ m os).isEmpty=true) (n9:os.length<=9) {s0 s1 s3 s5 s6 s7 s8:Option D}: ∀ (ds:List D) {h:Hh} {x11 x12 x13 x14:Option D} {P:Out->Hh->Prop},
  (∀ y11 y12 y13 y14 h',P (.nx [s0,s1,some (zaR m os),s3,some (.int (os.length:Int)),s5,s6,s7,s8,some (.lst ((zbW m os).map tI)),some (.lst ((List.range os.length).map fun j=> .int (cnt m os j:Int))),y11,y12,y13,y14]) h')->
  wp (zaS (fun x sd=>do let sd1<-zaB 11 x sd;zeD sd1) ds [s0,s1,some (zaR m os),s3,some (.int (os.length:Int)),s5,s6,s7,s8,some (.lst ((zbW m os).map tI)),some (.lst ((List.range os.length).map fun j=> .int (cnt m os j:Int))),x11,x12,x13,x14]) h P
 | [],h,x11,x12,x13,x14,P,k=>by
  rw [zb4,zam]
  exact k _ _ _ _ _
 | d::r,h,x11,x12,x13,x14,P,k=>by
  have ih:=fun (h:Hh) (x11 x12 x13 x14:Option D)=>zfB s hf n9 (s0:=s0) (s1:=s1) (s3:=s3) (s5:=s5) (s6:=s6) (s7:=s7) (s8:=s8) r (h:=h) (x11:=x11) (x12:=x12) (x13:=x13) (x14:=x14) (P:=P) k
  rw [zbC]
  generalize zaS (fun x sd=>do let sd1<-zaB 11 x sd;zeD sd1) r=rest at ih ⊢
  rw [zaq,zcE,pure_bind]
  exact zpK s hf n9 fun y12 y13 y14 h'=>ih _ _ _ _ _
theorem zkA {s0 s1 s3 s5 s6 s7 s8 s9 s10 s11 s12 s13 s14:Option D}:Ev (zav (iSq (zin (zac (zag 4) (zac (cUn zol (cK (.int 1))) (zac (cK (.bl true)) (zac (cK .non) zar)))))) (zaB 0) (fun _=>pure true) zgd [none,some 2] [s0,s1,some (zaR m os),s3,some (.int (os.length:Int)),s5,s6,s7,s8,s9,s10,s11,s12,s13,s14]) (.lst [.str "offer",.str "offer",.str "offer",.str "offer"]):=by
 have:=zl9 (g':=id) (xs:=zrR os.length) (k:=fun _=>some (.str "offer")) (fi:=iSq (zin (zac (zag 4) (zac (cUn zol (cK (.int 1))) (zac (cK (.bl true)) (zac (cK .non) zar)))))) (g:=zaB 0) (tc:=fun _=>pure true) (te:=zgd) (src:=[none,some 2]) (sd:=[s0,s1,some (zaR m os),s3,some (.int (os.length:Int)),s5,s6,s7,s8,s9,s10,s11,s12,s13,s14]) ?_ (by simp [zrR]) fun d hd=> ?_
 ·exact this
 ·ac_nf0
  rfl
 ·have eb:zah [none,some 2] [s0,s1,some (zaR m os),s3,some (.int (os.length:Int)),s5,s6,s7,s8,s9,s10,s11,s12,s13,s14]=[none,some (zaR m os)]:=rfl
  rw [eb]
  refine .of_wp fun h=> ?_
  simp only [zaT,zgd,id]
  ac_nf0
  refine (zox (zmV hd) rfl ztQ).wp fun h' g=> ?_
  ac_nf0
  first | exact ⟨trivial,g⟩ | exact ⟨g,trivial⟩ | exact g
theorem znf {ns:List Int} (hb: ∀ i∈ns,Builtin.Int.intBits i<=2^20) {j:Int} (i0:0<=j) (i1:j<6) {h:Hh} {x2 x3 x4 x5 x6 x7 x8 x9 x10 x11 x12 x13 x14:Option D} {P:Out->Hh->Prop}
  (k: ∀ y2 y3 y4 y5 y6 y7 y8 y9 y10 y11 y12 y13 y14 h',P (.nx [some (.scr (ns.map D.int)),some (.int j),y2,y3,y4,y5,y6,y7,y8,y9,y10,y11,y12,y13,y14]) h'):wp (zfc [some (.scr (ns.map D.int)),some (.int j),x2,x3,x4,x5,x6,x7,x8,x9,x10,x11,x12,x13,x14]) h P:=by
 unfold zfc
 refine zcR ?_
 rw [zbl,zaJ]
 simp only [zbl,zaJ,za8,zaP,za5,zgA,pure_bind,bind_assoc,zbV,zlS,zaq]
 refine zrm hb i0 i1 fun z=> ?_
 have qb:Bx h.length (h++[.lst [.int z]]):=⟨z,by simp⟩
 generalize h.length=b at qb
 generalize h++[.lst [.int z]]=h1 at qb
 refine zqn qb (by decide) (by decide) (by decide) (by decide) fun m os h2 q2 s hf ol ml=> ?_
 have n9:os.length<=9:=by omega
 refine zcR ?_
 rw [zmJ (x:=zaR m os) rfl]
 refine (zlG s n9).wp fun h3 g3=> ?_
 refine zcR ?_
 have el: ∀ (x y:Option D) (l:List (Option D)),zaC zeL (zac (cOp dIx (zag 2) (cK (.int 1))) zar) (x::y::some (zaR m os)::l)=pure (.int (os.length:Int)):=fun x y l=>by
  ac_nf0
  rw [zkg]
  ac_nf0
 simp only [List.set]
 rw [el,zam]
 refine zge (ds:=(List.range os.length).map fun (i:Nat)=> .int (i:Int)) ?_ ?_
 ·ac_nf0
  rw [zbc (by omega) (by omega),qas,zbr,qaF]
  rfl
 refine zeE s hf n9 _ (fun i hi=>List.mem_range.mp hi) fun y5 y6 y7 y8 h4=> ?_
 rw [zg0]
 refine zcR ?_
 simp only [List.set]
 rw [zkJ s hf n9,zam]
 refine zcR ?_
 show wp (zav _ _ _ _ _ [some (.scr (ns.map D.int)),some (.int j),some (zaR m os),some (.lst ((zen m os).map pD)),some (.int (os.length:Int)),y5,y6,y7,y8,some (.lst ((zbW m os).map tI)),x10,x11,x12,x13,x14]) _ _
 rw [znS n9,zam]
 refine zge (ds:=zc9 0 2) (by ac_nf0;exact zbc (by decide) (by decide)) ?_
 refine zfB s hf n9 _ fun y11 y12 y13 y14 h5=> ?_
 rw [zg0]
 refine zpO ?_
 have eml:zmr (.lst [.str "offer"]) (.int 4)=pure (.lst [.str "offer",.str "offer",.str "offer",.str "offer"]):=by
  unfold zmr
  simp only
  rw [if_pos (by decide)]
  rfl
 ac_nf0
 refine zkA.wp fun h6 g6=> ?_
 ac_nf0
 rw [eml]
 ac_nf0
 rw [zpB]
 ac_nf0
 first | exact ⟨trivial,k _ _ _ _ _ _ _ _ _ _ _ _ _ _⟩ | exact ⟨k _ _ _ _ _ _ _ _ _ _ _ _ _ _,trivial⟩ | exact k _ _ _ _ _ _ _ _ _ _ _ _ _ _
theorem zjg {ns:List Int} (hb: ∀ i∈ns,Builtin.Int.intBits i<=2^20): ∀ (ds:List D) {h:Hh} {x1 x2 x3 x4 x5 x6 x7 x8 x9 x10 x11 x12 x13 x14:Option D} {P:Out->Hh->Prop},(∀ d∈ds, ∃ i:Int,d= .int i/\0<=i/\i<6)->(∀ y1 y2 y3 y4 y5 y6 y7 y8 y9 y10 y11 y12 y13 y14 h',P (.nx [some (.scr (ns.map D.int)),y1,y2,y3,y4,y5,y6,y7,y8,y9,y10,y11,y12,y13,y14]) h')->
  wp (zaS (fun x sd=>do let sd1<-zaB 1 x sd;zfc sd1) ds [some (.scr (ns.map D.int)),x1,x2,x3,x4,x5,x6,x7,x8,x9,x10,x11,x12,x13,x14]) h P
 | [],h,x1,x2,x3,x4,x5,x6,x7,x8,x9,x10,x11,x12,x13,x14,P,_,k=>by
  rw [zb4,zam]
  exact k _ _ _ _ _ _ _ _ _ _ _ _ _ _ _
 | d::r,h,x1,x2,x3,x4,x5,x6,x7,x8,x9,x10,x11,x12,x13,x14,P,hd,k=>by
  obtain ⟨i,rfl,i0,i1⟩:=hd _ qan
  have ih:=fun (h:Hh) (x1 x2 x3 x4 x5 x6 x7 x8 x9 x10 x11 x12 x13 x14:Option D)=>zjg hb r (h:=h) (x1:=x1) (x2:=x2) (x3:=x3) (x4:=x4) (x5:=x5) (x6:=x6) (x7:=x7) (x8:=x8) (x9:=x9) (x10:=x10) (x11:=x11) (x12:=x12) (x13:=x13) (x14:=x14) (P:=P) (fun y hy=>hd y (qaj _ hy)) k
  rw [zbC]
  generalize zaS (fun x sd=>do let sd1<-zaB 1 x sd;zfc sd1) r=rest at ih ⊢
  rw [zaq,zcE,pure_bind]
  exact znf hb i0 i1 fun y2 y3 y4 y5 y6 y7 y8 y9 y10 y11 y12 y13 y14 h'=>ih _ _ _ _ _ _ _ _ _ _ _ _ _ _ _
theorem zm2: ∀ ns:List Int,ns.length<=63->(∀ i∈ns,Builtin.Int.intBits i<=2^20)-> ∃ h',F_38 [.scr (ns.map D.int)] []= .ok (.bl true) h':=by
 intro ns _ hb
 have key:wp (F_38 [.scr (ns.map D.int)]) [] fun d _=>d= .bl true:=by
  rw [d_38,zaq]
  unfold G_38
  generalize hn:(if (if (4:Int)<(ns.length:Int) then (4:Int) else (ns.length:Int))>1 then (if (4:Int)<(ns.length:Int) then (4:Int) else (ns.length:Int)) else (1:Int))=n
  have n0:0<=n/\n<=6:=by
   rw [<- hn]
   split<;>split<;>omega
  refine zge (ds:=zc9 0 n.toNat) ?_ ?_
  ·ac_nf0
   simp only [zoP,qax]
   ac_nf0
   simp only [zuP]
   ac_nf0
   rw [hn]
   exact zbc n0.1 (by omega)
  refine zjg hb _ (fun d hd=> ?_) fun y1 y2 y3 y4 y5 y6 y7 y8 y9 y10 y11 y12 y13 y14 h'=> ?_
  ·obtain ⟨i,e,i0,i1⟩:=zmt hd
   exact ⟨i,e,i0,by omega⟩
  have s0:Stk 2 [([0],1)]:=⟨by decide,by decide,by decide,by decide,by decide,by decide,by decide⟩
  have s1:Stk 1 [([0],4)]:=⟨by decide,by decide,by decide,by decide,by decide,by decide,by decide⟩
  have v0:D.tup [.int 2,.tup [.tup [.tup [.int 0],.int 1]]]=zaR 2 [([0],1)]:=rfl
  have v1:D.tup [.int 1,.tup [.tup [.tup [.int 0],.int 4]]]=zaR 1 [([0],4)]:=rfl
  have e0:=zox (zjE s0 (by rfl) (i:=0) (by decide)) rfl zum
  have e1:=ziP s1 (by rfl) (by decide) (i:=0) (by decide)
  have er:zhh 1 [([0],4)] 0= .non:=by
   unfold zhh
   rw [if_pos (by decide +kernel)]
  rw [er] at e1
  have en:zqW .non .non=pure (.bl true):=rfl
  have z0:((0:Nat):Int)=0:=rfl
  rw [z0] at e0 e1
  ac_nf0
  rw [v0]
  refine e0.wp fun h1 g1=> ?_
  ac_nf0
  rw [zqR zsN]
  ac_nf0
  rw [v1]
  refine e1.wp fun h2 g2=> ?_
  ac_nf0
  rw [en,zam]
 obtain ⟨d,h',e,rfl⟩:=key
 exact ⟨h',e⟩
end K82
namespace K82
open PySem PySem.Spec PyProof.Rows L2 L3
theorem zsY {l:W.OpenLaw} {w:World} {K:W.Frag} {h:Heap} {mg:Str->Option Value} {fa a_0 a_1 a_2 a_3 a_4 a_5 a_6 a_7 a_31 a_32 a_33 a_28 a_29 a_30 a_34 a_8 a_14 a_17 a_18 a_11 a_13 a_21 a_20 a_19 a_23 a_9 a_10 a_15 a_16 a_12 a_22 a_24 a_35 a_27 a_25 a_26 a_36 a_37 a_38:Addr} (X:K.In h) (G:h.Ns mainGlobals mg) (hfa:mg "law"=some (.ref fa))
  {od_38 an_38:Option Addr} {sl_38:Array (Option Value)} {oc_38 kV_38 dc_38 pm_38 cd_38 ct_38:Value}
  {d_31 d_32 d_33 d_28 d_29 d_30 d_34 d_8 d_14 d_17 d_18 d_11 d_13 d_21 d_20 d_19 d_23 d_9 d_10 d_15 d_16 d_12 d_22 d_24 d_35 d_27 d_25 d_26 d_36 d_37:FuncData}
  (f_31:Fd K "_law_take" s_31 a_31 d_31)
  (f_32:Fd K "_law_stock" s_32 a_32 d_32)
  (f_33:Fd K "_law_full" s_33 a_33 d_33)
  (f_28:Fd K "_law_cell" s_28 a_28 d_28)
  (f_29:Fd K "_law_mix" s_29 a_29 d_29)
  (f_30:Fd K "_law_box" s_30 a_30 d_30)
  (f_34:Fd K "_law_covers" s_34 a_34 d_34)
  (f_8:Fd K "is_whole" s_8 a_8 d_8)
  (f_14:Fd K "need_offer" s_14 a_14 d_14)
  (f_17:Fd K "things_together" s_17 a_17 d_17)
  (f_18:Fd K "have_all" s_18 a_18 d_18)
  (f_11:Fd K "is_full" s_11 a_11 d_11)
  (f_13:Fd K "need_full" s_13 a_13 d_13)
  (f_21:Fd K "bits_of" s_21 a_21 d_21)
  (f_20:Fd K "known_lots" s_20 a_20 d_20)
  (f_19:Fd K "priced_covers" s_19 a_19 d_19)
  (f_23:Fd K "cheapest_without" s_23 a_23 d_23)
  (f_9:Fd K "is_rising" s_9 a_9 d_9)
  (f_10:Fd K "is_lot" s_10 a_10 d_10)
  (f_15:Fd K "need_lot" s_15 a_15 d_15)
  (f_16:Fd K "offers_of" s_16 a_16 d_16)
  (f_12:Fd K "price_of" s_12 a_12 d_12)
  (f_22:Fd K "cheapest_with" s_22 a_22 d_22)
  (f_24:Fd K "reach_of" s_24 a_24 d_24)
  (f_35:Fd K "_law_whole" s_35 a_35 d_35)
  (f_27:Fd K "cheapest_covers" s_27 a_27 d_27)
  (f_25:Fd K "in_some" s_25 a_25 d_25)
  (f_26:Fd K "in_all" s_26 a_26 d_26)
  (f_36:Fd K "_law_kind" s_36 a_36 d_36)
  (f_37:Fd K "_law_said" s_37 a_37 d_37)
  (e_38:W.nsIn K mainGlobals "law"=some (some (.ref a_38))) (l_38:K.lookup a_38=some ⟨oc_38,od_38,.func (W.fnOf "law" "law" (zdY s_38) (zcf s_38) (zae s_38) .none kV_38 dc_38 pm_38 an_38 cd_38 ct_38),sl_38⟩) (c_38:W.codeIn K cd_38 "law"=true) (k_38:W.keepIn K (.ref a_38)=true)
  (e_0:W.nsIn K mainGlobals "CoverError"=some (some (.ref a_0)))
  (e_1:W.nsIn K mainGlobals "NoStock"=some (some (.ref a_1)))
  (e_2:W.nsIn K mainGlobals "NoOffer"=some (some (.ref a_2)))
  (e_3:W.nsIn K mainGlobals "NoThing"=some (some (.ref a_3)))
  (e_4:W.nsIn K mainGlobals "NoCover"=some (some (.ref a_4)))
  (e_5:W.nsIn K mainGlobals "NoNumber"=some (some (.ref a_5)))
  (e_6:W.nsIn K mainGlobals "NotFull"=some (some (.ref a_6)))
  (e_7:W.nsIn K mainGlobals "NoRow"=some (some (.ref a_7)))
  (z_all:W.nsIn K mainGlobals "all"=some none)
  (z_any:W.nsIn K mainGlobals "any"=some none)
  (z_bool:W.nsIn K mainGlobals "bool"=some none)
  (z_divmod:W.nsIn K mainGlobals "divmod"=some none)
  (z_int:W.nsIn K mainGlobals "int"=some none)
  (z_isinstance:W.nsIn K mainGlobals "isinstance"=some none)
  (z_len:W.nsIn K mainGlobals "len"=some none)
  (z_list:W.nsIn K mainGlobals "list"=some none)
  (z_max:W.nsIn K mainGlobals "max"=some none)
  (z_min:W.nsIn K mainGlobals "min"=some none)
  (z_range:W.nsIn K mainGlobals "range"=some none)
  (z_set:W.nsIn K mainGlobals "set"=some none)
  (z_sorted:W.nsIn K mainGlobals "sorted"=some none)
  (z_sum:W.nsIn K mainGlobals "sum"=some none)
  (z_tuple:W.nsIn K mainGlobals "tuple"=some none)
  (x_tab:zl3 K a_0 [("NoStock",a_1),("NoOffer",a_2),("NoThing",a_3),("NoCover",a_4),("NoNumber",a_5),("NotFull",a_6),("NoRow",a_7)]=true)
  : ∃ fd:FuncData,(∀ (s:Shared) (v:Value),BindsTo s fd ⟨[v],[]⟩ [("script",v)])/\ ∀ base:Heap,K.In base->base.Ns mainGlobals mg->zbG l.prog w K mg base CX0 9 fa fd ["script"] (zcn K 1 F_38):=by
 have e:=hfa.symm.trans (W.mg_of X G e_38)
 cases e
 have F_38:=zaK (st:=s_38) l_38 c_38 k_38
 have b_38:=F_38.binds (ps:=["script"]) fun _ _ _ _ _ _ us hl=>match us,hl with | [_],_=>rfl
 have T:Tx K mg ⟨a_0,a_1,a_2,a_3,a_4,a_5,a_6,a_7,a_31,_,a_32,_,a_33,_,a_28,_,a_29,_,a_30,_,a_34,_,a_8,_,a_14,_,a_17,_,a_18,_,a_11,_,a_13,_,a_21,_,a_20,_,a_19,_,a_23,_,a_9,_,a_10,_,a_15,_,a_16,_,a_12,_,a_22,_,a_24,_,a_35,_,a_27,_,a_25,_,a_26,_,a_36,_,a_37,_,fa,_⟩:=
  {g_0:=W.mg_of X G e_0,
    g_1:=W.mg_of X G e_1,
    g_2:=W.mg_of X G e_2,
    g_3:=W.mg_of X G e_3,
    g_4:=W.mg_of X G e_4,
    g_5:=W.mg_of X G e_5,
    g_6:=W.mg_of X G e_6,
    g_7:=W.mg_of X G e_7,
    k_1:=e_1,
    k_2:=e_2,
    k_3:=e_3,
    k_4:=e_4,
    k_5:=e_5,
    k_6:=e_6,
    k_7:=e_7,
    x_exc:=znA.of x_tab,
    n_all:=W.mg_none_of X G z_all,
    n_any:=W.mg_none_of X G z_any,
    n_bool:=W.mg_none_of X G z_bool,
    n_divmod:=W.mg_none_of X G z_divmod,
    n_int:=W.mg_none_of X G z_int,
    n_isinstance:=W.mg_none_of X G z_isinstance,
    n_len:=W.mg_none_of X G z_len,
    n_list:=W.mg_none_of X G z_list,
    n_max:=W.mg_none_of X G z_max,
    n_min:=W.mg_none_of X G z_min,
    n_range:=W.mg_none_of X G z_range,
    n_set:=W.mg_none_of X G z_set,
    n_sorted:=W.mg_none_of X G z_sorted,
    n_sum:=W.mg_none_of X G z_sum,
    n_tuple:=W.mg_none_of X G z_tuple,
    m_31:=W.mg_of X G f_31.e,
    F_31:=f_31.F,
    b_31:=f_31.F.binds (ps:=["box","many"]) fun _ _ _ _ _ _ us hl=>match us,hl with | [_,_],_=>rfl,
    m_32:=W.mg_of X G f_32.e,
    F_32:=f_32.F,
    b_32:=f_32.F.binds (ps:=["box","most_things","most_offers"]) fun _ _ _ _ _ _ us hl=>match us,hl with | [_,_,_],_=>rfl,
    m_33:=W.mg_of X G f_33.e,
    F_33:=f_33.F,
    b_33:=f_33.F.binds (ps:=["box","most_things","most_offers"]) fun _ _ _ _ _ _ us hl=>match us,hl with | [_,_,_],_=>rfl,
    m_28:=W.mg_of X G f_28.e,
    F_28:=f_28.F,
    b_28:=f_28.F.binds (ps:=["script","k"]) fun _ _ _ _ _ _ us hl=>match us,hl with | [_,_],_=>rfl,
    m_29:=W.mg_of X G f_29.e,
    F_29:=f_29.F,
    b_29:=f_29.F.binds (ps:=["cell","k"]) fun _ _ _ _ _ _ us hl=>match us,hl with | [_,_],_=>rfl,
    m_30:=W.mg_of X G f_30.e,
    F_30:=f_30.F,
    b_30:=f_30.F.binds (ps:=["script","k"]) fun _ _ _ _ _ _ us hl=>match us,hl with | [_,_],_=>rfl,
    m_34:=W.mg_of X G f_34.e,
    F_34:=f_34.F,
    b_34:=f_34.F.binds (ps:=["stock"]) fun _ _ _ _ _ _ us hl=>match us,hl with | [_],_=>rfl,
    m_8:=W.mg_of X G f_8.e,
    F_8:=f_8.F,
    b_8:=f_8.F.binds (ps:=["thing"]) fun _ _ _ _ _ _ us hl=>match us,hl with | [_],_=>rfl,
    m_14:=W.mg_of X G f_14.e,
    F_14:=f_14.F,
    b_14:=f_14.F.binds (ps:=["stock","offer"]) fun _ _ _ _ _ _ us hl=>match us,hl with | [_,_],_=>rfl,
    m_17:=W.mg_of X G f_17.e,
    F_17:=f_17.F,
    b_17:=f_17.F.binds (ps:=["offers"]) fun _ _ _ _ _ _ us hl=>match us,hl with | [_],_=>rfl,
    m_18:=W.mg_of X G f_18.e,
    F_18:=f_18.F,
    b_18:=f_18.F.binds (ps:=["stock","offers"]) fun _ _ _ _ _ _ us hl=>match us,hl with | [_,_],_=>rfl,
    m_11:=W.mg_of X G f_11.e,
    F_11:=f_11.F,
    b_11:=f_11.F.binds (ps:=["stock"]) fun _ _ _ _ _ _ us hl=>match us,hl with | [_],_=>rfl,
    m_13:=W.mg_of X G f_13.e,
    F_13:=f_13.F,
    b_13:=f_13.F.binds (ps:=["stock"]) fun _ _ _ _ _ _ us hl=>match us,hl with | [_],_=>rfl,
    m_21:=W.mg_of X G f_21.e,
    F_21:=f_21.F,
    b_21:=f_21.F.binds (ps:=["many","things"]) fun _ _ _ _ _ _ us hl=>match us,hl with | [_,_],_=>rfl,
    m_20:=W.mg_of X G f_20.e,
    F_20:=f_20.F,
    b_20:=f_20.F.binds (ps:=["stock"]) fun _ _ _ _ _ _ us hl=>match us,hl with | [_],_=>rfl,
    m_19:=W.mg_of X G f_19.e,
    F_19:=f_19.F,
    b_19:=f_19.F.binds (ps:=["stock"]) fun _ _ _ _ _ _ us hl=>match us,hl with | [_],_=>rfl,
    m_23:=W.mg_of X G f_23.e,
    F_23:=f_23.F,
    b_23:=f_23.F.binds (ps:=["stock","offer"]) fun _ _ _ _ _ _ us hl=>match us,hl with | [_,_],_=>rfl,
    m_9:=W.mg_of X G f_9.e,
    F_9:=f_9.F,
    b_9:=f_9.F.binds (ps:=["thing","bound"]) fun _ _ _ _ _ _ us hl=>match us,hl with | [_,_],_=>rfl,
    m_10:=W.mg_of X G f_10.e,
    F_10:=f_10.F,
    b_10:=f_10.F.binds (ps:=["stock","thing"]) fun _ _ _ _ _ _ us hl=>match us,hl with | [_,_],_=>rfl,
    m_15:=W.mg_of X G f_15.e,
    F_15:=f_15.F,
    b_15:=f_15.F.binds (ps:=["stock","lot"]) fun _ _ _ _ _ _ us hl=>match us,hl with | [_,_],_=>rfl,
    m_16:=W.mg_of X G f_16.e,
    F_16:=f_16.F,
    b_16:=f_16.F.binds (ps:=["stock","lot"]) fun _ _ _ _ _ _ us hl=>match us,hl with | [_,_],_=>rfl,
    m_12:=W.mg_of X G f_12.e,
    F_12:=f_12.F,
    b_12:=f_12.F.binds (ps:=["stock","lot"]) fun _ _ _ _ _ _ us hl=>match us,hl with | [_,_],_=>rfl,
    m_22:=W.mg_of X G f_22.e,
    F_22:=f_22.F,
    b_22:=f_22.F.binds (ps:=["stock","offer"]) fun _ _ _ _ _ _ us hl=>match us,hl with | [_,_],_=>rfl,
    m_24:=W.mg_of X G f_24.e,
    F_24:=f_24.F,
    b_24:=f_24.F.binds (ps:=["stock","offer"]) fun _ _ _ _ _ _ us hl=>match us,hl with | [_,_],_=>rfl,
    m_35:=W.mg_of X G f_35.e,
    F_35:=f_35.F,
    b_35:=f_35.F.binds (ps:=["found"]) fun _ _ _ _ _ _ us hl=>match us,hl with | [_],_=>rfl,
    m_27:=W.mg_of X G f_27.e,
    F_27:=f_27.F,
    b_27:=f_27.F.binds (ps:=["stock"]) fun _ _ _ _ _ _ us hl=>match us,hl with | [_],_=>rfl,
    m_25:=W.mg_of X G f_25.e,
    F_25:=f_25.F,
    b_25:=f_25.F.binds (ps:=["stock"]) fun _ _ _ _ _ _ us hl=>match us,hl with | [_],_=>rfl,
    m_26:=W.mg_of X G f_26.e,
    F_26:=f_26.F,
    b_26:=f_26.F.binds (ps:=["stock"]) fun _ _ _ _ _ _ us hl=>match us,hl with | [_],_=>rfl,
    m_36:=W.mg_of X G f_36.e,
    F_36:=f_36.F,
    b_36:=f_36.F.binds (ps:=["e"]) fun _ _ _ _ _ _ us hl=>match us,hl with | [_],_=>rfl,
    m_37:=W.mg_of X G f_37.e,
    F_37:=f_37.F,
    b_37:=f_37.F.binds (ps:=["stock","offer"]) fun _ _ _ _ _ _ us hl=>match us,hl with | [_,_],_=>rfl,
    m_38:=W.mg_of X G e_38,
    F_38:=F_38,
    b_38:=b_38}
 exact ⟨W.fnOf "law" "law" (zdY s_38) (zcf s_38) (zae s_38) .none kV_38 dc_38 pm_38 an_38 cd_38 ct_38,fun s v=> .of_eq rfl,fun base _ _=>ok_38 T⟩
theorem zv2 {l:W.OpenLaw} {q:Program} {loose:List Str} {XP:(Str->Option Value)->Heap->Prop} {YP:World->Heap->Prop} {d:DefRec} {K:Params->W.Frag} (hn:l.most=some 63) (hdf:d.params.defaults=[])
  (hY: ∀ (w:World) (h:Heap),YP w h->(K w.params).In h)
  (F: ∀ (w:World) (mg:Str->Option Value) (fa:Addr) (h:Heap),(K w.params).In h->h.Ns mainGlobals mg->mg d.name=some (.ref fa)->
    ∃ fd:FuncData,(∀ (s:Shared) (u:Value),BindsTo s fd ⟨[u],[]⟩ [("script",u)])/\ ∀ base:Heap,(K w.params).In base->base.Ns mainGlobals mg->zbG l.prog w (K w.params) mg base CX0 9 fa fd ["script"] (zcn (K w.params) 1 F_38))
  (hm: ∀ ns:List Int,ns.length<=63->(∀ i∈ns,Builtin.Int.intBits i<=2^20)-> ∃ h',F_38 [.scr (ns.map D.int)] []= .ok (.bl true) h'):
  W.WalkO q loose XP YP l.row.toRowW d [] (fun f vs=>PySem.call f vs):=
 L2.znC (n:=63) (k:=9) (x:="script") (CX:=fun _=>CX0) (sp:=fun w=>zcn (K w.params) 1 F_38) hn (by decide) hdf ⟨rfl,by decide,by decide⟩ hY F (fun w H a ns hl hw hS=>ztR hS (hm ns hl hw)) fun _ _ _ _ _ z=>z
end K82
open PySem PySem.W PyProof.Rows
set_option maxRecDepth 100000 in
set_option maxHeartbeats 0 in
theorem PySem.Challenge.cw_cheapcovers_k82_reaches_of_offers_holds : PySem.Challenge.rw_cheapcovers_k82_reaches_of_offers.Holds := by
 w_on; o_law; k_head; (case hw => w_witness2)
 k_fill
 refine K82.zv2 (l := PySem.Challenge.rw_cheapcovers_k82_reaches_of_offers) rfl rfl (fun w h Y => W.kIn_of Y) ?F K82.zm2
 case F =>
  intro w mg fa h KX G hmg
  refine' K82.zsY KX G hmg (L3.Fd.mk ?e__law_take (L2.zaK ?l__law_take ?c__law_take ?k__law_take)) (L3.Fd.mk ?e__law_stock (L2.zaK ?l__law_stock ?c__law_stock ?k__law_stock)) (L3.Fd.mk ?e__law_full (L2.zaK ?l__law_full ?c__law_full ?k__law_full)) (L3.Fd.mk ?e__law_cell (L2.zaK ?l__law_cell ?c__law_cell ?k__law_cell)) (L3.Fd.mk ?e__law_mix (L2.zaK ?l__law_mix ?c__law_mix ?k__law_mix)) (L3.Fd.mk ?e__law_box (L2.zaK ?l__law_box ?c__law_box ?k__law_box)) (L3.Fd.mk ?e__law_covers (L2.zaK ?l__law_covers ?c__law_covers ?k__law_covers)) (L3.Fd.mk ?e_is_whole (L2.zaK ?l_is_whole ?c_is_whole ?k_is_whole)) (L3.Fd.mk ?e_need_offer (L2.zaK ?l_need_offer ?c_need_offer ?k_need_offer)) (L3.Fd.mk ?e_things_together (L2.zaK ?l_things_together ?c_things_together ?k_things_together)) (L3.Fd.mk ?e_have_all (L2.zaK ?l_have_all ?c_have_all ?k_have_all)) (L3.Fd.mk ?e_is_full (L2.zaK ?l_is_full ?c_is_full ?k_is_full)) (L3.Fd.mk ?e_need_full (L2.zaK ?l_need_full ?c_need_full ?k_need_full)) (L3.Fd.mk ?e_bits_of (L2.zaK ?l_bits_of ?c_bits_of ?k_bits_of)) (L3.Fd.mk ?e_known_lots (L2.zaK ?l_known_lots ?c_known_lots ?k_known_lots)) (L3.Fd.mk ?e_priced_covers (L2.zaK ?l_priced_covers ?c_priced_covers ?k_priced_covers)) (L3.Fd.mk ?e_cheapest_without (L2.zaK ?l_cheapest_without ?c_cheapest_without ?k_cheapest_without)) (L3.Fd.mk ?e_is_rising (L2.zaK ?l_is_rising ?c_is_rising ?k_is_rising)) (L3.Fd.mk ?e_is_lot (L2.zaK ?l_is_lot ?c_is_lot ?k_is_lot)) (L3.Fd.mk ?e_need_lot (L2.zaK ?l_need_lot ?c_need_lot ?k_need_lot)) (L3.Fd.mk ?e_offers_of (L2.zaK ?l_offers_of ?c_offers_of ?k_offers_of)) (L3.Fd.mk ?e_price_of (L2.zaK ?l_price_of ?c_price_of ?k_price_of)) (L3.Fd.mk ?e_cheapest_with (L2.zaK ?l_cheapest_with ?c_cheapest_with ?k_cheapest_with)) (L3.Fd.mk ?e_reach_of (L2.zaK ?l_reach_of ?c_reach_of ?k_reach_of)) (L3.Fd.mk ?e__law_whole (L2.zaK ?l__law_whole ?c__law_whole ?k__law_whole)) (L3.Fd.mk ?e_cheapest_covers (L2.zaK ?l_cheapest_covers ?c_cheapest_covers ?k_cheapest_covers)) (L3.Fd.mk ?e_in_some (L2.zaK ?l_in_some ?c_in_some ?k_in_some)) (L3.Fd.mk ?e_in_all (L2.zaK ?l_in_all ?c_in_all ?k_in_all)) (L3.Fd.mk ?e__law_kind (L2.zaK ?l__law_kind ?c__law_kind ?k__law_kind)) (L3.Fd.mk ?e__law_said (L2.zaK ?l__law_said ?c__law_said ?k__law_said)) ?e_law ?l_law ?c_law ?k_law ?e_CoverError ?e_NoStock ?e_NoOffer ?e_NoThing ?e_NoCover ?e_NoNumber ?e_NotFull ?e_NoRow ?z_all ?z_any ?z_bool ?z_divmod ?z_int ?z_isinstance ?z_len ?z_list ?z_max ?z_min ?z_range ?z_set ?z_sorted ?z_sum ?z_tuple ?x_tab
  (case e__law_take => k_is)
  (case l__law_take => k_is)
  (case c__law_take => k_is)
  (case k__law_take => k_is)
  (case e__law_stock => k_is)
  (case l__law_stock => k_is)
  (case c__law_stock => k_is)
  (case k__law_stock => k_is)
  (case e__law_full => k_is)
  (case l__law_full => k_is)
  (case c__law_full => k_is)
  (case k__law_full => k_is)
  (case e__law_cell => k_is)
  (case l__law_cell => k_is)
  (case c__law_cell => k_is)
  (case k__law_cell => k_is)
  (case e__law_mix => k_is)
  (case l__law_mix => k_is)
  (case c__law_mix => k_is)
  (case k__law_mix => k_is)
  (case e__law_box => k_is)
  (case l__law_box => k_is)
  (case c__law_box => k_is)
  (case k__law_box => k_is)
  (case e__law_covers => k_is)
  (case l__law_covers => k_is)
  (case c__law_covers => k_is)
  (case k__law_covers => k_is)
  (case e_is_whole => k_is)
  (case l_is_whole => k_is)
  (case c_is_whole => k_is)
  (case k_is_whole => k_is)
  (case e_need_offer => k_is)
  (case l_need_offer => k_is)
  (case c_need_offer => k_is)
  (case k_need_offer => k_is)
  (case e_things_together => k_is)
  (case l_things_together => k_is)
  (case c_things_together => k_is)
  (case k_things_together => k_is)
  (case e_have_all => k_is)
  (case l_have_all => k_is)
  (case c_have_all => k_is)
  (case k_have_all => k_is)
  (case e_is_full => k_is)
  (case l_is_full => k_is)
  (case c_is_full => k_is)
  (case k_is_full => k_is)
  (case e_need_full => k_is)
  (case l_need_full => k_is)
  (case c_need_full => k_is)
  (case k_need_full => k_is)
  (case e_bits_of => k_is)
  (case l_bits_of => k_is)
  (case c_bits_of => k_is)
  (case k_bits_of => k_is)
  (case e_known_lots => k_is)
  (case l_known_lots => k_is)
  (case c_known_lots => k_is)
  (case k_known_lots => k_is)
  (case e_priced_covers => k_is)
  (case l_priced_covers => k_is)
  (case c_priced_covers => k_is)
  (case k_priced_covers => k_is)
  (case e_cheapest_without => k_is)
  (case l_cheapest_without => k_is)
  (case c_cheapest_without => k_is)
  (case k_cheapest_without => k_is)
  (case e_is_rising => k_is)
  (case l_is_rising => k_is)
  (case c_is_rising => k_is)
  (case k_is_rising => k_is)
  (case e_is_lot => k_is)
  (case l_is_lot => k_is)
  (case c_is_lot => k_is)
  (case k_is_lot => k_is)
  (case e_need_lot => k_is)
  (case l_need_lot => k_is)
  (case c_need_lot => k_is)
  (case k_need_lot => k_is)
  (case e_offers_of => k_is)
  (case l_offers_of => k_is)
  (case c_offers_of => k_is)
  (case k_offers_of => k_is)
  (case e_price_of => k_is)
  (case l_price_of => k_is)
  (case c_price_of => k_is)
  (case k_price_of => k_is)
  (case e_cheapest_with => k_is)
  (case l_cheapest_with => k_is)
  (case c_cheapest_with => k_is)
  (case k_cheapest_with => k_is)
  (case e_reach_of => k_is)
  (case l_reach_of => k_is)
  (case c_reach_of => k_is)
  (case k_reach_of => k_is)
  (case e__law_whole => k_is)
  (case l__law_whole => k_is)
  (case c__law_whole => k_is)
  (case k__law_whole => k_is)
  (case e_cheapest_covers => k_is)
  (case l_cheapest_covers => k_is)
  (case c_cheapest_covers => k_is)
  (case k_cheapest_covers => k_is)
  (case e_in_some => k_is)
  (case l_in_some => k_is)
  (case c_in_some => k_is)
  (case k_in_some => k_is)
  (case e_in_all => k_is)
  (case l_in_all => k_is)
  (case c_in_all => k_is)
  (case k_in_all => k_is)
  (case e__law_kind => k_is)
  (case l__law_kind => k_is)
  (case c__law_kind => k_is)
  (case k__law_kind => k_is)
  (case e__law_said => k_is)
  (case l__law_said => k_is)
  (case c__law_said => k_is)
  (case k__law_said => k_is)
  (case e_law => k_is)
  (case l_law => k_is)
  (case c_law => k_is)
  (case k_law => k_is)
  (case e_CoverError => k_is)
  (case e_NoStock => k_is)
  (case e_NoOffer => k_is)
  (case e_NoThing => k_is)
  (case e_NoCover => k_is)
  (case e_NoNumber => k_is)
  (case e_NotFull => k_is)
  (case e_NoRow => k_is)
  (case z_all => k_is)
  (case z_any => k_is)
  (case z_bool => k_is)
  (case z_divmod => k_is)
  (case z_int => k_is)
  (case z_isinstance => k_is)
  (case z_len => k_is)
  (case z_list => k_is)
  (case z_max => k_is)
  (case z_min => k_is)
  (case z_range => k_is)
  (case z_set => k_is)
  (case z_sorted => k_is)
  (case z_sum => k_is)
  (case z_tuple => k_is)
  (case x_tab => kernel_rfl)
