import PyProof.Rows.All
import Wide.All
import OpenK.AllK
import Wide.FinOn
import PyProof.EqAt
import PyProof.EqKinds
import PyProof.TupleCall
import PyProof.StationsW
import PyProof.ExcArgs
import PyProof.Seq
import PyProof.TupleIter
import PyProof.RangeIter
import PyProof.WalkInts
import PyProof.SumWalkG
import PyProof.ListRange
import PyProof.Rows.Range3
import OpenK.KDescr
import PyProof.ExcAttrAll.ValueError
import PyProof.Draws
import PyProof.EnumFor
import PyProof.EnumMake
import PyProof.LayNew
import PyProof.Rows.EnumRows
import PyProof.MinMaxWalk
import Lean
import PySem.Challenge.RW_cheapcovers_k23_steps_together_and_what
set_option Elab.async false
set_option linter.all false
set_option maxRecDepth 100000
set_option maxHeartbeats 8000000
set_option compiler.extract_closed false
set_option bootstrap.genMatcherCode false
set_option genSizeOfSpec false
section
open PySem PySem.Spec PyProof PyProof.Rows
abbrev qaa := @List.getElem?_append_right
abbrev qab := @Array.getElem?_eq_some_iff
abbrev qac := @List.getElem?_eq_some_iff
abbrev qad := @List.getElem?_append_left
abbrev qaf := @List.getElem?_eq_getElem
abbrev qag := @Heap.get?_push_of_some
abbrev qah := @Heap.get?_update_other
abbrev qai := @List.getElem?_set_self
abbrev qak := @List.mem_append_right
abbrev qal := @Heap.get?_update_self
abbrev qan := @List.mem_cons_of_mem
abbrev qao := @List.getElem?_set_ne
abbrev qap := @Around.under_plainId
abbrev qaq := @List.pairwise_append
abbrev qar := @Heap.get?_push_size
abbrev qas := @Array.length_toList
abbrev qat := @List.filterMap_cons
abbrev qau := @List.mem_cons_self
abbrev qav := @List.length_append
abbrev qaw := @Nat.lt_of_lt_of_le
abbrev qax := @Bool.false_eq_true
abbrev qay := @List.pairwise_cons
abbrev qaA := @List.size_toArray
abbrev qaB := @Int.toNat_natCast
abbrev qaC := @wpAny_newObj_type
abbrev qaD := @decide_eq_true_eq
abbrev qaE := @List.length_cons
abbrev qaF := @List.not_mem_nil
abbrev qaG := @Bool.and_eq_true
abbrev qaH := @List.length_map
abbrev qaI := @List.length_set
abbrev qaJ := @List.length_nil
abbrev qaK := @List.mem_append
abbrev qaL := @Heap.size_push
abbrev qaM := @List.map_cons
abbrev qaN := @Nat.lt_irrefl
abbrev qaO := @wpAny_holding
abbrev qaP := @List.mem_cons
abbrev qaQ := @Heap.lt_size
abbrev qaR := @Nat.ne_of_lt
abbrev qaS := @Nat.le_trans
abbrev qaT := @List.map_map
abbrev qaU := @List.mem_map
abbrev qaV := @Nat.le_refl
abbrev qaW := @wpAny_bind
abbrev qaX := @wpAny_pure
abbrev qaZ := @wpAny_mono
abbrev qa0 := @False.elim
abbrev qa4 := @if_pos
abbrev qa5 := @if_neg
end
noncomputable def PySem.W.Fast.tw9335846150671408953:Nat:=0
noncomputable def PySem.W.Fast.tw10957249576265032003:Nat:=0
noncomputable def PySem.W.Fast.tw11794422007729426944:Nat:=0
noncomputable def PySem.W.Fast.tw17024073068544018906:Nat:=0
noncomputable def PySem.W.Fast.tw9810511197555389630:Nat:=0
noncomputable def PySem.W.Fast.tw6117938607894021297:Nat:=0
noncomputable def PySem.W.Fast.tw2287784746587456711:Nat:=0
noncomputable def PySem.W.Fast.tw2272310054034451938:Nat:=0
noncomputable def PySem.W.Fast.tw2072448684097750466:Nat:=0
noncomputable def PySem.W.Fast.tw2824457589920187322:Nat:=0
noncomputable def PySem.W.Fast.tw14007380433635969646:Nat:=0
noncomputable def PySem.W.Fast.tw17259504849276426474:Nat:=0
noncomputable def PySem.W.Fast.tw528812952180556054:Nat:=0
noncomputable def PySem.W.Fast.tw810623532941732809:Nat:=0
noncomputable def PySem.W.Fast.tw17728557554075989530:Nat:=0
noncomputable def PySem.W.Fast.tw4776079322279251383:Nat:=0
namespace L3
open PySem
def zhq (h:Heap) (e:Addr) (cls head:Value):Prop:= ∃ ob vs,h.get? e=some ob/\ob.cls=cls/\ob.dict=none/\ob.data= .fields vs/\vs[2]? = some .none/\vs[1]? = some head
def ztK (h B:Heap) (e:Addr) (head fl:Value):Prop:= ∃ T ot ts,head= .ref T/\B.get? T=none/\T≠e/\h.get? T=some ot/\ot.data= .fields ts/\ts[3]? = some fl
structure Fly (B:Heap) (l:List Env) (e:Addr) (cls fl:Value) (h:Heap):Prop where
 stays:B.StaysIn h
 new:B.get? e=none
 frames:h.FunFrames B l
 exc: ∃ head,zhq h e cls head/\ztK h B e head fl
theorem zmE (o:Obj) (f):(o.mapFields f).dict=o.dict:=by
 obtain ⟨c,d,t,z⟩:=o
 cases t<;>rfl
section
variable {M:Model} {A:Around} {E:Value->Shared->Prop} {s:Shared} {B:Heap} {env:Env} {outer l:List Env} {L e:Addr} {cls head fl:Value}
theorem ziJ {hd0:Value} {hadNext:Bool} {Q:Unit->Shared->Prop} (hfr:A.frames=some (env::outer)) (hl:s.heap.FunFrames B (env::outer)) (hf:env.frame=some L) (hx:zhq s.heap e cls head)
  (hkb:B.StaysIn s.heap) (hen:B.get? e=none) (q: ∀ h',Fly B (env::outer) e cls (rawInt L) h'->s.heap.UpToSlots h'->Q () {s with heap:=h'}):
  wpAny M A (do let a<-frameOf env;let pl<-entryPlaceOf L hadNext;let b<-EntryCells.newEntry hd0 a .none (rawInt L) .none pl;setField (.ref e) 1 b) Q E s:=by
 obtain ⟨ob,vs,h1,h2,h3,h4,h5,h6⟩:=hx
 have hsz:1<vs.size:=(qab.mp h6).1
 have nfr:e∉(env::outer).filterMap (·.frame):=fun z=>by
  obtain ⟨_,o,ho,hn⟩:=hl.mem z
  rw [h1] at ho
  cases ho
  exact hn vs h4
 refine qaW (wpAny_frameOf_fun hfr hl hf fun g sg=> ?_)
 refine qaW (wpAny_entryPlaceOf fun pl hpl=> ?_)
 unfold EntryCells.newEntry newFields
 refine qaW (qaC ?_ (hpl.sizeOk5 _ _ _ _ _))
 have e1:g.get? e=some ob:=(sg.2.1 e nfr).trans h1
 have kb:B.StaysIn g:=fun b o z=>(sg.2.1 b fun w=>by rw [(hl.mem w).1] at z;cases z).trans (hkb b o z)
 generalize hob:({cls:= .type "traceback",dict:=none,data:= .fields ([hd0,.ref L,.none,rawInt L,.none]++(if pl.isEmpty then List.replicate 6 Value.none else pl)).toArray}:Obj)=tb
 have e2:(g.push tb).get? e=some ob:=qag _ e1
 have ne:g.objs.size≠e:=Nat.ne_of_gt (qaQ e1)
 have d3:=Obj.data_mapFields h4 (·.setIfInBounds 1 (Value.ref g.objs.size))
 have e3:=qal (Obj.mapFields (·.setIfInBounds 1 (Value.ref g.objs.size))) e2 (Obj.isFreed_of_fields d3)
 have ft:tb.isFreed=false:=by rw [<- hob];rfl
 have t3:((g.push tb).update e (Obj.mapFields (·.setIfInBounds 1 (Value.ref g.objs.size)))).get? g.objs.size=some tb:=(qah _ _ (Ne.symm ne)).trans (qar g ft)
 have stay: ∀ b o,b≠e->g.get? b=some o->((g.push tb).update e (Obj.mapFields (·.setIfInBounds 1 (Value.ref g.objs.size)))).get? b=some o:=fun b o hb z=>by
  rw [qah _ _ (Ne.symm hb)]
  exact qag _ z
 have nrec: ∀ b o,s.heap.get? b=some o->(∀ ws,o.data≠ .fields ws)->b≠e:=fun b o z hn w=>by
  rw [w,h1] at z
  cases z
  exact hn vs h4
 have ht: ∃ ts,tb.data= .fields ts/\ts[3]? = some (rawInt L):=⟨_,by rw [<- hob],by rcases hpl with rfl | ⟨_,_,_,_,_,_,_,rfl⟩<;>simp⟩
 obtain ⟨ts,ht1,ht2⟩:=ht
 refine wpAny_setField e2 h4 hsz (q _ ⟨fun b o z=>stay b o (fun w=>by rw [w,hen] at z;cases z) (kb b o z),hen,hl.of_keeps fun b o z hn=> ?_,.ref g.objs.size,⟨_,_,e3,(Obj.cls_mapFields _ _).trans h2,(zmE _ _).trans h3,d3,?_,?_⟩,g.objs.size,tb,ts,rfl,kb.fresh,ne,t3,ht1,ht2⟩ fun b o z hn=> ?_)
 ·obtain ⟨sl,hs⟩:=sg.2.2 b o z
  exact ⟨_,stay b _ (nrec b o z hn) hs,rfl⟩
 ·rw [Array.getElem?_setIfInBounds_ne (by decide)]
  exact h5
 ·simp [hsz]
 ·obtain ⟨sl,hs⟩:=sg.2.2 b o z
  exact ⟨sl,stay b _ (nrec b o z hn) hs⟩
theorem zji {Q:Unit->Shared->Prop} (hfr:A.frames=some (env::outer)) (hl:s.heap.FunFrames B (env::outer)) (hf:env.frame=some L) (hx:zhq s.heap e cls .none)
  (hkb:B.StaysIn s.heap) (hen:B.get? e=none) (q: ∀ h',Fly B (env::outer) e cls (rawInt L) h'->s.heap.UpToSlots h'->Q () {s with heap:=h'}):wpAny M A (noteFrame (.ref e) env) Q E s:=by
 obtain ⟨ob,vs,h1,h2,h3,h4,h5,h6⟩:=id hx
 unfold noteFrame
 simp only [hf]
 refine qaW (wpAny_field h1 h4 h6 ?_)
 rw [qa5 (by decide)]
 exact ziJ hfr hl hf hx hkb hen q
theorem zjQ {Q:Unit->Shared->Prop} (hfr:A.frames=some (env::outer)) (hf:env.frame=some L) (y:Fly B (env::outer) e cls .none s.heap)
  (q: ∀ h',Fly B (env::outer) e cls (rawInt L) h'->s.heap.UpToSlots h'->Q () {s with heap:=h'}):wpAny M A (noteFrame (.ref e) env) Q E s:=by
 obtain ⟨hkb,hen,hl,hd,⟨ob,vs,h1,h2,h3,h4,h5,h6⟩,T,ot,ts,rfl,t1,t2,t3,t4,t5⟩:=y
 unfold noteFrame
 simp only [hf]
 refine qaW (wpAny_field h1 h4 h6 ?_)
 rw [qa4 (show (Value.ref T != Value.none)=true by simp)]
 refine qaW (wpAny_field t3 t4 t5 ?_)
 rw [qa5 (show ¬(Value.none==rawInt L)=true by simp [rawInt])]
 refine qaW (wpAny_setField t3 t4 (qab.mp t5).1 ?_)
 have oth: ∀ b,b≠T->(s.heap.update T (Obj.mapFields (·.setIfInBounds 3 Value.none))).get? b=s.heap.get? b:=fun b hb=>qah _ _ (Ne.symm hb)
 have nrec: ∀ b o,s.heap.get? b=some o->(∀ ws,o.data≠ .fields ws)->b≠T:=fun b o z hn w=>by
  rw [w,t3] at z
  cases z
  exact hn ts t4
 refine ziJ hfr (hl.of_keeps fun b o z hn=>⟨o,(oth b (nrec b o z hn)).trans z,rfl⟩) hf ⟨ob,vs,(oth e (Ne.symm t2)).trans h1,h2,h3,h4,h5,h6⟩ (fun b o z=>(oth b fun w=>by rw [w,t1] at z;cases z).trans (hkb b o z)) hen fun h' y u=> ?_
 exact q h' y fun b o z hn=>u b o ((oth b (nrec b o z hn)).trans z) hn
theorem zd1 {Q:Unit->Shared->Prop} (y:Fly B l e cls fl s.heap) (q: ∀ h',Fly B l e cls .none h'->(∀ b o,s.heap.get? b=some o->(∀ ws,o.data≠ .fields ws)->h'.get? b=some o)->Q () {s with heap:=h'}):
  wpAny M A (setFlight (.ref e) none) Q E s:=by
 obtain ⟨hkb,hen,hl,hd,⟨ob,vs,h1,h2,h3,h4,h5,h6⟩,T,ot,ts,rfl,t1,t2,t3,t4,t5⟩:=y
 have hsz:=(qab.mp t5).1
 have oth: ∀ b,b≠T->(s.heap.update T (Obj.mapFields (·.setIfInBounds 3 ((none:Option Addr).elim Value.none fun f=>rawInt f)))).get? b=s.heap.get? b:=fun b hb=>qah _ _ (Ne.symm hb)
 have nrec: ∀ b o,s.heap.get? b=some o->(∀ ws,o.data≠ .fields ws)->b≠T:=fun b o z hn w=>by
  rw [w,t3] at z
  cases z
  exact hn ts t4
 unfold setFlight
 refine qaW (wpAny_field h1 h4 h6 ?_)
 rw [qa4 (show (Value.ref T != Value.none)=true by simp)]
 refine wpAny_setField t3 t4 hsz (q _ ⟨fun b o z=>(oth b fun w=>by rw [w,t1] at z;cases z).trans (hkb b o z),hen,hl.of_keeps fun b o z hn=>⟨o,(oth b (nrec b o z hn)).trans z,rfl⟩,
   .ref T,⟨ob,vs,(oth e (Ne.symm t2)).trans h1,h2,h3,h4,h5,h6⟩,T,_,_,rfl,t1,t2,qal _ t3 (Obj.isFreed_of_fields (Obj.data_mapFields t4 _)),Obj.data_mapFields t4 _,by simp [hsz]⟩ fun b o z hn=>(oth b (nrec b o z hn)).trans z)
theorem Fly.tail {h:Heap} (y:Fly B (env::outer) e cls fl h):Fly B outer e cls fl h:=⟨y.stays,y.new,y.frames.2.2,y.exc⟩
theorem zhx {Q:Unit->Shared->Prop} (hfr:A.frames=some (env::outer)) (hl:s.heap.FunFrames B (env::outer)) (hf:env.frame=some L) (hx:zhq s.heap e cls .none)
  (hkb:B.StaysIn s.heap) (hen:B.get? e=none) (q: ∀ h',Fly B outer e cls .none h'->s.heap.UpToSlots h'->Q () {s with heap:=h'}):wpAny M A (leaving env (.ref e)) Q E s:=by
 unfold leaving
 refine qaW (zji hfr hl hf hx hkb hen fun h1 y1 u1=> ?_)
 refine zd1 (s:={s with heap:=h1}) y1 fun h2 y2 k2=>q h2 y2.tail (u1.trans fun b o z hn=>⟨o.slots,k2 b o z hn⟩)
theorem zlG {Q:Unit->Shared->Prop} (hfr:A.frames=some (env::outer)) (hf:env.frame=some L) (y:Fly B (env::outer) e cls .none s.heap)
  (q: ∀ h',Fly B outer e cls .none h'->s.heap.UpToSlots h'->Q () {s with heap:=h'}):wpAny M A (leaving env (.ref e)) Q E s:=by
 unfold leaving
 refine qaW (zjQ hfr hf y fun h1 y1 u1=> ?_)
 refine zd1 (s:={s with heap:=h1}) y1 fun h2 y2 k2=>q h2 y2.tail (u1.trans fun b o z hn=>⟨o.slots,k2 b o z hn⟩)
theorem zlT {h h':Heap} {args:List Value} (x:Heap.MadeExcOf h h' e cls args):zhq h' e cls .none:=by
 obtain ⟨t,h1,_,_⟩:=x.there
 exact ⟨_,_,h1,rfl,rfl,rfl,rfl,rfl⟩
end
theorem zgf:entryFor table "proto.unchain"=some Builtin.«proto.unchain» := entryFor_of_tree (by kernel_rfl)
section
variable {prog:Program} {w:World} {A:Around} {E:Value->Shared->Prop} {s:Shared}
theorem zdf {α:Type} {a h:Addr} {o:Obj} {us:Array Value} {cls head:Value} {Q:α->Shared->Prop} (hh:A.handled=some (.ref h)) (hx:zhq s.heap h cls head) (ho:s.heap.get? a=some o) (hd:o.data= .fields us) (hz:2<us.size) (hne:h≠a)
  (q:E (.ref a) {s with heap:=s.heap.update a (Obj.mapFields (·.setIfInBounds 2 (.ref h)))}):wpAny (model prog w) A (raiseNew (.ref a):Sem α) Q E s:=by
 obtain ⟨ob,vs,h1,h2,h3,h4,h5,h6⟩:=hx
 unfold raiseNew
 refine qaW (wpAny_handled ?_)
 rw [hh]
 dsimp only
 rw [qa4 (show (Value.ref h != Value.ref a)=true by simp [hne])]
 refine qaW (qaO (wpAny_runValue (codeAny_builtin zgf ?_)))
 unfold Builtin.«proto.unchain»
 refine qaW (wpAny_field h1 h4 h5 ?_)
 rw [qa4 (show (Value.none==Value.none)=true from rfl)]
 refine qaW (qaX (qaX ?_))
 refine qaW ?_
 obtain ⟨c,d,dt,sl⟩:=o
 dsimp only at hd
 subst hd
 unfold updateField
 refine qaW (wpAny_load ho ?_)
 dsimp only
 rw [qa4 hz]
 exact wpAny_update ho (wpAny_throw q)
def zlv (A:Around) (h:Heap):Prop:=A.handled=none\/ ∃ a cls head,A.handled=some (.ref a)/\zhq h a cls head
theorem zh0 {it l:Addr} {i:Nat} {items:Array Value} {Q:Option Value->Shared->Prop} (hh:zlv A s.heap) (hit:s.heap.IsListIter it l i) (hl:s.heap.IsList l items) (hx:items[i]? = none)
  (k: ∀ h',Heap.ExtBut it s.heap h'->Q none {s with heap:=h'}):wpAny (model prog w) A (pyNext (.ref it)) Q E s:=by
 rcases hh with hh | ⟨ha,cls,head,hh,hX⟩
 ·exact wpAny_pyNext_list_end hh hit hl hx k
 obtain ⟨o,h1,h2,h3⟩:=id hit
 obtain ⟨ol,l1,_,nl,l2⟩:=hl
 unfold pyNext
 refine qaW (wpAny_attempt (wpAny_callSpecial?_slot (name:=Str.ofString "__next__") hit.typeIs slot_listiter_next (wpAny_call_entry slot_listiter_next hit.typeIs entry_listiter_next ?_ (args_listiter_next _))))
 show wpAny _ _ (field (.ref it) 0>>=_) _ _ s
 refine qaW (wpAny_field h1 h3 (x:= .ref l) rfl ?_)
 show wpAny _ _ (if (Value.ref l==Value.none)=true then _ else _) _ _ s
 rw [qa5 (show ¬(Value.ref l==Value.none)=true from nofun)]
 show wpAny _ _ (field (.ref it) 1>>=_) _ _ s
 refine qaW (wpAny_field h1 h3 (x:= .int i 0) rfl ?_)
 show wpAny _ _ (seqItems? (.ref l)>>=_) _ _ s
 refine qaW (wpAny_seqItems l1 l2 ?_)
 simp only [qaB,hx]
 refine qaW (wpAny_rule (qaW (wpAny_setField h1 h3 (by simp) ?_)))
 have nit:ha≠it:=fun z=>by
  subst z
  obtain ⟨ob,vs,x1,_,_,x4,x5,x6⟩:=hX
  rw [h1] at x1
  cases x1
  rw [h3] at x4
  cases x4
  simp at x5
 have hX1:zhq (s.heap.update it (Obj.mapFields (·.setIfInBounds 0 Value.none))) ha cls head:=by
  obtain ⟨ob,vs,x1,x2⟩:=hX
  exact ⟨ob,vs,(qah _ _ (Ne.symm nit)).trans x1,x2⟩
 show wpAny _ _ (newExc (.type "StopIteration") []>>=_) _ _ _
 refine qaW ?_
 simp only [newExc,newTuple]
 refine qaW (qaC ?_ (by size_fits))
 refine qaW (m:=firstArgMember _ _) (wpAny_of_eq (a:=Value.none) (by first | rfl | (simp only [firstArgMember];rfl)) ?_)
 refine qaC ?_ (by size_fits)
 obtain ⟨ob,vs,x1,x2⟩:=hX1
 have y1:=qag {cls:= .type "tuple",dict:=none,data:= .seq [].toArray} x1
 refine zdf (h:=ha) (cls:=cls) (head:=head) hh ⟨ob,vs,qag _ y1,x2⟩ (qar _ rfl) rfl (by simp;omega) (qaR (qaQ y1)) ?_
 refine qaW (wpAny_isInstance (T:="StopIteration") (b:=true) ⟨_,qal _ (qar _ rfl) rfl,rfl⟩ isSubtype_stop ?_)
 refine qaX (k _ fun b o hb z=> ?_)
 have z1:(s.heap.update it (Obj.mapFields (·.setIfInBounds 0 Value.none))).get? b=some o:=(qah _ _ (Ne.symm hb)).trans z
 have z2:=qag {cls:= .type "tuple",dict:=none,data:= .seq [].toArray} z1
 rw [qah _ _ (Nat.ne_of_gt (qaQ z2))]
 exact qag _ z2
theorem zjP {it l:Addr} {i:Nat} {items:Array Value} {Q:Option Value->Shared->Prop} (hh:zlv A s.heap) (hit:s.heap.IsTupleIter it l i) (hl:s.heap.IsTuple l items) (hx:items[i]? = none)
  (k: ∀ h',Heap.ExtBut it s.heap h'->Q none {s with heap:=h'}):wpAny (model prog w) A (pyNext (.ref it)) Q E s:=by
 rcases hh with hh | ⟨ha,cls,head,hh,hX⟩
 ·exact wpAny_pyNext_tuple_end hh hit hl hx k
 obtain ⟨o,h1,h2,h3⟩:=id hit
 obtain ⟨ol,l1,_,nl,l2⟩:=hl
 unfold pyNext
 refine qaW (wpAny_attempt (wpAny_callSpecial?_slot (name:=Str.ofString "__next__") hit.typeIs F.slot_tuple_iterator_next (wpAny_call_entry F.slot_tuple_iterator_next hit.typeIs F.entry_tuple_iterator_next ?_ (F.args_tuple_iterator_next_1 _))))
 show wpAny _ _ (field (.ref it) 0>>=_) _ _ s
 refine qaW (wpAny_field h1 h3 (x:= .ref l) rfl ?_)
 show wpAny _ _ (if (Value.ref l==Value.none)=true then _ else _) _ _ s
 rw [qa5 (show ¬(Value.ref l==Value.none)=true from nofun)]
 show wpAny _ _ (field (.ref it) 1>>=_) _ _ s
 refine qaW (wpAny_field h1 h3 (x:= .int i 0) rfl ?_)
 show wpAny _ _ (seqItems? (.ref l)>>=_) _ _ s
 refine qaW (wpAny_seqItems l1 l2 ?_)
 simp only [qaB,hx]
 refine qaW (wpAny_rule (qaW (wpAny_setField h1 h3 (by simp) ?_)))
 have nit:ha≠it:=fun z=>by
  subst z
  obtain ⟨ob,vs,x1,_,_,x4,x5,x6⟩:=hX
  rw [h1] at x1
  cases x1
  rw [h3] at x4
  cases x4
  simp at x5
 have hX1:zhq (s.heap.update it (Obj.mapFields (·.setIfInBounds 0 Value.none))) ha cls head:=by
  obtain ⟨ob,vs,x1,x2⟩:=hX
  exact ⟨ob,vs,(qah _ _ (Ne.symm nit)).trans x1,x2⟩
 show wpAny _ _ (newExc (.type "StopIteration") []>>=_) _ _ _
 refine qaW ?_
 simp only [newExc,newTuple]
 refine qaW (qaC ?_ (by size_fits))
 refine qaW (m:=firstArgMember _ _) (wpAny_of_eq (a:=Value.none) (by first | rfl | (simp only [firstArgMember];rfl)) ?_)
 refine qaC ?_ (by size_fits)
 obtain ⟨ob,vs,x1,x2⟩:=hX1
 have y1:=qag {cls:= .type "tuple",dict:=none,data:= .seq [].toArray} x1
 refine zdf (h:=ha) (cls:=cls) (head:=head) hh ⟨ob,vs,qag _ y1,x2⟩ (qar _ rfl) rfl (by simp;omega) (qaR (qaQ y1)) ?_
 refine qaW (wpAny_isInstance (T:="StopIteration") (b:=true) ⟨_,qal _ (qar _ rfl) rfl,rfl⟩ isSubtype_stop ?_)
 refine qaX (k _ fun b o hb z=> ?_)
 have z1:(s.heap.update it (Obj.mapFields (·.setIfInBounds 0 Value.none))).get? b=some o:=(qah _ _ (Ne.symm hb)).trans z
 have z2:=qag {cls:= .type "tuple",dict:=none,data:= .seq [].toArray} z1
 rw [qah _ _ (Nat.ne_of_gt (qaQ z2))]
 exact qag _ z2
theorem zlb {it:Addr} {x left step:Int} {Q:Option Value->Shared->Prop} (hh:zlv A s.heap) (hit:IsRangeIter s.heap it x left step) (hleft:left<=0)
  (k: ∀ h',Heap.ExtBut it s.heap h'->Q none {s with heap:=h'}):wpAny (model prog w) A (pyNext (.ref it)) Q E s:=by
 rcases hh with hh | ⟨ha,cls,head,hh,hX⟩
 ·exact wpAny_pyNext_range_end hh hit hleft k
 have hT:s.TypeIs (.ref it) "range_iterator":=⟨_,hit,rfl⟩
 unfold pyNext
 refine qaW (wpAny_attempt (wpAny_callSpecial?_slot (name:=Str.ofString "__next__") hT F.slot_range_iterator_next (wpAny_call_entry F.slot_range_iterator_next hT F.entry_range_iterator_next ?_ (F.args_range_iterator_next_1 _))))
 show wpAny _ _ (field (.ref it) 0>>=_) _ _ s
 refine qaW (wpAny_field hit rfl (x:=rawInt x) rfl ?_)
 show wpAny _ _ (field (.ref it) 1>>=_) _ _ s
 refine qaW (wpAny_field hit rfl (x:=rawInt left) rfl ?_)
 show wpAny _ _ (field (.ref it) 2>>=_) _ _ s
 refine qaW (wpAny_field hit rfl (x:=rawInt step) rfl ?_)
 show wpAny _ _ (if left<=0 then _ else _) _ _ s
 rw [qa4 hleft]
 refine qaW (wpAny_rule (qaW ?_))
 show wpAny _ _ (newExc (.type "StopIteration") []>>=_) _ _ _
 refine qaW ?_
 simp only [newExc,newTuple]
 refine qaW (qaC ?_ (by size_fits))
 refine qaW (m:=firstArgMember _ _) (wpAny_of_eq (a:=Value.none) (by first | rfl | (simp only [firstArgMember];rfl)) ?_)
 refine qaC ?_ (by size_fits)
 obtain ⟨ob,vs,x1,x2⟩:=hX
 have y1:=qag {cls:= .type "tuple",dict:=none,data:= .seq [].toArray} x1
 refine zdf (h:=ha) (cls:=cls) (head:=head) hh ⟨ob,vs,qag _ y1,x2⟩ (qar _ rfl) rfl (by simp;omega) (qaR (qaQ y1)) ?_
 refine qaW (wpAny_isInstance (T:="StopIteration") (b:=true) ⟨_,qal _ (qar _ rfl) rfl,rfl⟩ isSubtype_stop ?_)
 refine qaX (k _ fun b o hb z=> ?_)
 have z2:=qag {cls:= .type "tuple",dict:=none,data:= .seq [].toArray} z
 rw [qah _ _ (Nat.ne_of_gt (qaQ z2))]
 exact qag _ z2
theorem zhq.keep {h h':Heap} {a:Addr} {cls head:Value} (x:zhq h a cls head) (k: ∀ o,h.get? a=some o->h'.get? a=some o):zhq h' a cls head:=by
 obtain ⟨ob,vs,x1,x2⟩:=x
 exact ⟨ob,vs,k _ x1,x2⟩
theorem zi4 {ha:Addr} {cls head:Value} (hh:A.handled=some (.ref ha)) (I ax:Addr) (hne:ax≠I) (hn2:ha≠I) (items:Array Value):
  Walks prog w A I [I,ax,ha] [I] items.size (fun i v=>items[i]? = some v) (fun i h=>h.IsListIter I ax i/\h.IsList ax items/\zhq h ha cls head) where
 sub:=fun b hb=>by simp at hb;simp [hb]
 frame:=fun _ _ _ st hk=>⟨st.1.at fun o e=>hk I (by simp) o e,st.2.1.at fun o e=>hk ax (by simp) o e,st.2.2.keep fun o e=>hk ha (by simp) o e⟩
 item:=fun i s Q E hi st hQ=>by
  refine wpAny_pyNext_list_item st.1 st.2.1 (x:=items[i]) (by simp [hi]) fun h' hit' hs'=> ?_
  exact hQ _ h' s.toks (by simp [hi]) ⟨hit',st.2.1.extBut hs'.extBut hne,st.2.2.keep fun o e=>hs'.extBut ha o hn2 e⟩ fun b o hb e=>hs'.extBut b o (fun h=>hb (by simp [h])) e
 done:=fun s Q E st hQ=>zh0 (.inr ⟨ha,cls,head,hh,st.2.2⟩) st.1 st.2.1 (by simp) fun h' he'=>hQ h' s.toks fun b o hb e=>he' b o (fun h=>hb (by simp [h])) e
 self:=fun _ _ _ _ st hQ=>wpAny_pyIter_listiter st.1 hQ
end
end L3
namespace L2
open PySem PySem.Spec PyProof.Rows
noncomputable abbrev Key:=Sum Int Str
noncomputable def ziY:Key->Value->Bool
 | .inl k,v=>Value.isInt k v
 | .inr x,v=>Value.isStrOf x v
noncomputable def ztq (w:World):Key->Int
 | .inl k=>hashInt k
 | .inr x=>hashStr w x
theorem za3: ∀ {k:Key} {v:Value},ziY k v=true->(∃ i t,k=Sum.inl i/\v=Value.int i t)\/(∃ x t,k=Sum.inr x/\v=Value.str x t)
 | .inl i,v,h=>by
  obtain ⟨t,e⟩:=Value.isInt_shape (k:=i) (v:=v) h
  exact .inl ⟨i,t,rfl,e⟩
 | .inr x,v,h=>by
  obtain ⟨t,e⟩:=Value.isStrOf_shape (x:=x) (v:=v) h
  exact .inr ⟨x,t,rfl,e⟩
theorem zj5 (i:Int) (t:Tok):ziY (.inl i) (.int i t)=true:=by simp [ziY,Value.isInt]
theorem zjy (x:Str) (t:Tok):ziY (.inr x) (.str x t)=true:=by simp [ziY,Value.isStrOf]
theorem zrr (a b:Int):decide ((Sum.inl a:Key)=Sum.inl b)=(a==b):=by
 by_cases e:a=b
 ·subst e;simp
 ·have h: ¬(Sum.inl a:Key)=Sum.inl b:=fun q=>e (Sum.inl.inj q)
  rw [decide_eq_false h]
  exact (beq_eq_false_iff_ne.mpr e).symm
theorem zql (a b:Str):decide ((Sum.inr a:Key)=Sum.inr b)=decide (a=b):=by
 by_cases e:a=b
 ·subst e;simp
 ·have h: ¬(Sum.inr a:Key)=Sum.inr b:=fun q=>e (Sum.inr.inj q)
  rw [decide_eq_false h,decide_eq_false e]
theorem zpL (a:Int) (b:Str):decide ((Sum.inl a:Key)=Sum.inr b)=false:=decide_eq_false (fun q=>nomatch q)
theorem zpO (a:Str) (b:Int):decide ((Sum.inr a:Key)=Sum.inl b)=false:=decide_eq_false (fun q=>nomatch q)
noncomputable def zeW (prog:Program) (w:World):PySem.KeyKind prog w Key where
 is:=ziY
 hash:=ztq w
 inj:=fun v a b ha hb=>by
  rcases za3 ha with ⟨i,t,rfl,rfl⟩ | ⟨x,t,rfl,rfl⟩
  ·rcases za3 hb with ⟨j,u,rfl,e⟩ | ⟨y,u,rfl,e⟩
   ·injection e with e1 _;rw [e1]
   ·exact nomatch e
  ·rcases za3 hb with ⟨j,u,rfl,e⟩ | ⟨y,u,rfl,e⟩
   ·exact nomatch e
   ·injection e with e1 _;rw [e1]
 byValue:=fun k v h=>by
  rcases za3 h with ⟨i,t,rfl,rfl⟩ | ⟨x,t,rfl,rfl⟩<;>rfl
 pyHash:=fun hv h=>by
  rcases za3 hv with ⟨i,t,rfl,rfl⟩ | ⟨x,t,rfl,rfl⟩
  ·exact wpAny_pyHash_int h
  ·exact wpAny_pyHash_str h
 eqBool:=fun hu hv h=>by
  rcases za3 hu with ⟨i,t,rfl,rfl⟩ | ⟨x,t,rfl,rfl⟩
  ·rcases za3 hv with ⟨j,u,rfl,rfl⟩ | ⟨y,u,rfl,rfl⟩
   ·rw [zrr] at h;exact wpAny_eqBool_int h
   ·rw [zpL] at h;exact SeqAt.EqAt.int_str i t y u _ _ _ _ h
  ·rcases za3 hv with ⟨j,u,rfl,rfl⟩ | ⟨y,u,rfl,rfl⟩
   ·rw [zpO] at h;exact SeqAt.EqAt.str_int x t j u _ _ _ _ h
   ·rw [zql] at h;exact wpAny_eqBool_str h
 «strs» := fun k x t v h=>by
  rcases za3 h with ⟨i,u,rfl,e⟩ | ⟨y,u,rfl,e⟩
  ·exact nomatch e
  ·injection e with e1 _
   subst e1
   cases v<;>rfl
theorem zhu (prog:Program) (w:World) (i:Int) (t:Tok):(zeW prog w).is (.inl i) (.int i t)=true:=zj5 i t
theorem zhC (prog:Program) (w:World) (x:Str) (t:Tok):(zeW prog w).is (.inr x) (.str x t)=true:=zjy x t
inductive V where
 | non | bl (b:Bool) | int (i:Int) | str (x:Str) | byt (b:Array UInt8) | flt (b:UInt64) | ref (a:Addr) | ty (n:String)
 deriving DecidableEq
noncomputable def zby:V->Value->Prop
 | .non,u=>u=Value.none
 | .bl b,u=>u=Value.bool b
 | .int i,u=> ∃ t,u=Value.int i t
 | .str x,u=> ∃ t,u=Value.str x t
 | .byt b,u=> ∃ t,u=Value.bytes b t
 | .flt b,u=> ∃ t,u=Value.float b t
 | .ref a,u=>u=Value.ref a
 | .ty n,u=>u=Value.type n
noncomputable abbrev za2:List V->List Value->Prop:=Paired zby
theorem za2.length {xs:List V} {us:List Value} (r:za2 xs us):xs.length=us.length:=Paired.length r
theorem za2.get: ∀ {xs:List V} {us:List Value} {i:Nat} {x:V},za2 xs us->xs[i]? = some x-> ∃ u,us[i]? = some u/\zby x u
 | _,_,_,_,.nil,e=>by simp at e
 | _,_,0,_,.cons r _,e=>by simp at e;subst e;exact ⟨_,rfl,r⟩
 | _,_,i+1,x,.cons _ t,e=>by
  obtain ⟨u,h1,h2⟩:=za2.get (i:=i) (x:=x) t (by simpa using e)
  exact ⟨u,by simpa using h1,h2⟩
theorem za2.set {x:V} {u:Value} (r:zby x u): ∀ {xs:List V} {us:List Value} (i:Nat),za2 xs us->za2 (xs.set i x) (us.set i u)
 | _,_,_,.nil=> .nil
 | _,_,0,.cons _ t=> .cons r t
 | _,_,i+1,.cons q t=> .cons q (za2.set r i t)
theorem za2.append: ∀ {xs ys:List V} {us ws:List Value},za2 xs us->za2 ys ws->za2 (xs++ys) (us++ws)
 | _,_,_,_,.nil,s=>s
 | _,_,_,_,.cons r t,s=> .cons r (za2.append t s)
theorem za2.take: ∀ {xs:List V} {us:List Value} (n:Nat),za2 xs us->za2 (xs.take n) (us.take n)
 | _,_,0,_=> .nil
 | _,_,_+1,.nil=> .nil
 | _,_,n+1,.cons r t=> .cons r (za2.take n t)
theorem za2.drop: ∀ {xs:List V} {us:List Value} (n:Nat),za2 xs us->za2 (xs.drop n) (us.drop n)
 | _,_,0,r=>r
 | _,_,_+1,.nil=> .nil
 | _,_,n+1,.cons _ t=>za2.drop n t
noncomputable def zsf:Option V->Option Value->Prop
 | some v,some u=>zby v u
 | none,none=>True
 | _,_=>False
noncomputable def KV {κ:Type}:List (κ×V)->List (κ×Value)->Prop:=Paired fun (p:κ×V) (q:κ×Value)=>p.1=q.1/\zby p.2 q.2
noncomputable def kV:Key->V
 | .inl i=> .int i
 | .inr x=> .str x
inductive HO where
 | lst (xs:List V)
 | tup (xs:List V)
 | dK (kvs:List (Key×V)) | dT (kvs:List (List Key×V))
 | set (S:Int->Bool) (n:Nat)
 | ins (C dx:Addr) (fs:List (Str×V))
 | own (x:Addr)
 | xd (fs:List (Str×V))
 | met (f x:Addr)
 | rng (lo hi:Int)
 | frz (o:Obj) (u:HO)
 | tbl (ps:Array Value)
 | ext (φ:Heap->Prop)
noncomputable abbrev Hp:=Addr->Option HO
noncomputable def upd (H:Hp) (a:Addr) (o:HO):Hp:=fun b=>if b=a then some o else H b
theorem zaV {H:Hp} {a:Addr} {o:HO}:upd H a o a=some o:=by unfold upd;rw [qa4 rfl]
theorem zaz {H:Hp} {a b:Addr} {o:HO} (h:b≠a):upd H a o b=H b:=by unfold upd;rw [qa5 h]
theorem zaO {H:Hp} {a b:Addr} {o:HO} (h:H a=some o) (h':H b=none):a≠b:=by
 intro e;subst e;rw [h] at h';cases h'
section
variable (P:Program) (w:World)
noncomputable def zbM (H:Hp) (h:Heap) (a:Addr):HO->Prop
 | .lst xs=>xs.length<=sizeLine/\ ∃ (its:List Value) (n:Nat),za2 xs its/\h.get? a=some {cls:= .type "list",data:= .seq its.toArray n}
 | .tup xs=>xs.length<=sizeLine/\ ∃ its:List Value,za2 xs its/\IsTup h a its.toArray
 | .dK kvs=>kvs.length<=sizeLine/\(a==sysModules)=false/\ ∃ vs,KV kvs vs/\h.DictOf (zeW P w) a vs
 | .dT kvs=>kvs.length<=sizeLine/\(a==sysModules)=false/\ ∃ xs:List (List Key×Addr×Value),
   Paired (fun (p:List Key×V) (q:List Key×Addr×Value)=>p.1=q.1/\H q.2.1=some (.tup (p.1.map kV))/\zby p.2 q.2.2) kvs xs/\
   ∃ o es ep,h.get? a=some o/\o.ExactDict/\o.data= .dict es ep/\es.toList=xs.map (entryOfKey (tupleKind (zeW P w)))/\(xs.map (·.1)).Nodup
 | .set S n=>h.SetOf (intKind P w) a S n
 | .ins C dx fs=>H dx=some (.own a)/\fs.length<=1000/\dx≠a/\h.get? a=some (W.instObj C dx)/\
   ∃ mA,h.Ns1 dx mA/\(∀ f,zsf (fs.lookup f) (mA f))/\PySem.Within mA (fs.map (·.1))
 | .own _=> ∃ o,h.get? a=some o
 | .xd fs=> ∃ mA,h.Ns1 a mA/\ ∀ f,zsf (fs.lookup f) (mA f)
 | .rng lo hi=> ∃ t u v,h.get? a=some {cls:= .type "range",data:= .fields #[.int lo t,.int hi u,.int 1 v]}
 | .frz o u=>h.get? a=some o/\zbM H h a u
 | .tbl ps=>h.get? a=some {cls:= .none,data:= .fields ps}
 | .met f x=>h.get? a=some (W.methodObj (.ref f) (.ref x))
 | .ext φ=>φ h/\(∃ o,h.get? a=some o)/\ ∀ h1 h2:Heap,φ h1->(∀ o,h1.get? a=some o->h2.get? a=some o)->φ h2
def HOk (H:Hp) (h:Heap):Prop:= ∀ a o,H a=some o->zbM P w H h a o
end
section
variable {P:Program} {w:World} {H H':Hp} {h h':Heap} {a:Addr} {o:HO}
theorem zbM.lt (x:zbM P w H h a o):a<h.objs.size:=by
 cases o with
 | lst xs=>obtain ⟨_,_,_,_,e⟩:=x;exact qaQ e
 | tup xs=>obtain ⟨_,_,_,p⟩:=x;exact p.lt
 | dK kvs=>obtain ⟨_,_,_,_,o,_,_,e,_⟩:=x;exact qaQ e
 | dT kvs=>obtain ⟨_,_,_,_,o,_,_,e,_⟩:=x;exact qaQ e
 | set S n=>obtain ⟨o,_,_,_,e,_⟩:=x;exact qaQ e
 | ins C dx fs=>obtain ⟨_,_,_,e,_⟩:=x;exact qaQ e
 | own y=>obtain ⟨_,e⟩:=x;exact qaQ e
 | xd fs=>obtain ⟨_,⟨_,_,_,e,_⟩,_⟩:=x;exact qaQ e
 | rng lo hi=>obtain ⟨_,_,_,e⟩:=x;exact qaQ e
 | frz ob u=>obtain ⟨e,_⟩:=x;exact qaQ e
 | tbl ps=>exact qaQ (show h.get? a=some _ from x)
 | met f y=>exact qaQ (show h.get? a=some _ from x)
 | ext φ=>obtain ⟨_,⟨_,e⟩,_⟩:=x;exact qaQ e
theorem Paired.mapP {α β:Type} {F G:α->β->Prop}: ∀ {l₁:List α} {l₂:List β},Paired F l₁ l₂->(∀ a b,F a b->G a b)->Paired G l₁ l₂
 | _,_,.nil,_=> .nil
 | _,_,.cons r t,f=> .cons (f _ _ r) (Paired.mapP t f)
theorem zbM.stay (x:zbM P w H h a o) (k: ∀ b u,(b=a\/H b=some (.own a))->h.get? b=some u->h'.get? b=some u)
  (ho: ∀ b,H b=some (.own a)->H' b=some (.own a)) (ht: ∀ b xs,H b=some (.tup xs)->H' b=some (.tup xs)):zbM P w H' h' a o:=by
 induction o with
 | lst xs=>obtain ⟨z,its,n,r,e⟩:=x;exact ⟨z,its,n,r,k _ _ (.inl rfl) e⟩
 | tup xs=>obtain ⟨z,its,r,ob,e,c⟩:=x;exact ⟨z,its,r,ob,k _ _ (.inl rfl) e,c⟩
 | dK kvs=>obtain ⟨z,y,vs,r,ob,es,ep,e,c⟩:=x;exact ⟨z,y,vs,r,ob,es,ep,k _ _ (.inl rfl) e,c⟩
 | dT kvs=>
  obtain ⟨z,y,xs,r,ob,es,ep,e,c⟩:=x
  exact ⟨z,y,xs,Paired.mapP r fun p q z=>⟨z.1,ht _ _ z.2.1,z.2.2⟩,ob,es,ep,k _ _ (.inl rfl) e,c⟩
 | set S n=>obtain ⟨ob,es,ep,t,e,c⟩:=x;exact ⟨ob,es,ep,t,k _ _ (.inl rfl) e,c⟩
 | ins C dx fs=>
  obtain ⟨d,z,ne,e,mA,⟨od,es,ep,e2,c⟩,r⟩:=x
  exact ⟨ho _ d,z,ne,k _ _ (.inl rfl) e,mA,⟨od,es,ep,k _ _ (.inr d) e2,c⟩,r⟩
 | own y=>obtain ⟨ob,e⟩:=x;exact ⟨ob,k _ _ (.inl rfl) e⟩
 | xd fs=>obtain ⟨mA,⟨od,es,ep,e,c⟩,r⟩:=x;exact ⟨mA,⟨od,es,ep,k _ _ (.inl rfl) e,c⟩,r⟩
 | rng lo hi=>obtain ⟨t,u,v,e⟩:=x;exact ⟨t,u,v,k _ _ (.inl rfl) e⟩
 | frz ob u ih=>obtain ⟨e,q⟩:=x;exact ⟨k _ _ (.inl rfl) e,ih q⟩
 | tbl ps=>
  have e:h.get? a=some {cls:= .none,data:= .fields ps}:=x
  show h'.get? a=some {cls:= .none,data:= .fields ps}
  exact k a _ (.inl rfl) e
 | met f y=>
  have e:h.get? a=some (W.methodObj (.ref f) (.ref y)):=x
  show h'.get? a=some (W.methodObj (.ref f) (.ref y))
  exact k a _ (.inl rfl) e
 | ext φ=>obtain ⟨p,⟨o,e⟩,st⟩:=x;exact ⟨st _ _ p fun o q=>k _ _ (.inl rfl) q,⟨o,k _ _ (.inl rfl) e⟩,st⟩
theorem HOk.lt (x:HOk P w H h) (e:H a=some o):a<h.objs.size:=(x a o e).lt
theorem HOk.fresh (x:HOk P w H h) (e:h.objs.size<=a):H a=none:=by
 cases q:H a with
 | none=>rfl
 | some u=>exact absurd (qaw (x.lt q) e) (qaN _)
theorem HOk.kept (x:HOk P w H h) (k: ∀ b u,h.get? b=some u->h'.get? b=some u):HOk P w H h':=fun a o e=>
 (x a o e).stay (fun b u _ q=>k b u q) (fun _ q=>q) fun _ _ q=>q
theorem HOk.laid (x:HOk P w H h) (k: ∀ b u,h.get? b=some u->h'.get? b=some u) (hp:h.objs.size<=a) (new:zbM P w (upd H a o) h' a o):HOk P w (upd H a o) h':=fun b u e=>by
 have hn:=x.fresh hp
 by_cases hb:b=a
 ·subst hb;rw [zaV] at e;cases e;exact new
 ·rw [zaz hb] at e
  exact (x b u e).stay (fun c v _ q=>k c v q) (fun c q=>by rw [zaz (zaO q hn)];exact q) fun c xs q=>by rw [zaz (zaO q hn)];exact q
end
def Rd (H:Hp) (a:Addr) (u:HO):Prop:=H a=some u\/ ∃ o,H a=some (.frz o u)
theorem Rd.of {H:Hp} {a:Addr} {u:HO} (h:H a=some u):Rd H a u:= .inl h
theorem Rd.ok {P:Program} {w:World} {H:Hp} {h:Heap} {a:Addr} {u:HO} (r:Rd H a u) (x:HOk P w H h):zbM P w H h a u:=by
 rcases r with r | ⟨o,r⟩
 ·exact x a u r
 ·obtain ⟨_,q⟩:=x a _ r
  exact q
noncomputable def Mut:Option HO->Prop
 | some (.lst _)=>True
 | some (.dK _)=>True
 | some (.dT _)=>True
 | some (.set _ _)=>True
 | some (.ins _ _ _)=>True
 | some (.ext _)=>True
 | _=>False
section
variable {P:Program} {w:World} {H:Hp} {h h':Heap} {x e:Addr} {o':HO}
theorem HOk.write (ok:HOk P w H h) (mu:Mut (H x)) (he:e=x\/H e=some (.own x)) (k: ∀ b u,b≠e->h.get? b=some u->h'.get? b=some u) (heo: ∃ u,h'.get? e=some u)
  (new:zbM P w (upd H x o') h' x o'):HOk P w (upd H x o') h':=fun b u q=>by
 have nown: ∀ c y,H c=some (.own y)->c≠x:=fun c y r z=>by subst z;rw [r] at mu;exact mu
 have ntup: ∀ c xs,H c=some (.tup xs)->c≠x:=fun c xs r z=>by subst z;rw [r] at mu;exact mu
 by_cases hb:b=x
 ·subst hb;rw [zaV] at q;cases q;exact new
 ·rw [zaz hb] at q
  by_cases hbe:b=e
  ·have q':H b=some (.own x):=by
    rcases he with z | z
    ·exact absurd (hbe.trans z) hb
    ·rw [hbe];exact z
   rw [q] at q';cases q'
   obtain ⟨v,hv⟩:=heo
   exact ⟨v,by rw [hbe];exact hv⟩
  ·refine (ok b u q).stay (fun c v hc r=>k c v ?_ r) (fun c r=>by rw [zaz (nown c b r)];exact r) fun c xs r=>by rw [zaz (ntup c xs r)];exact r
   rcases hc with rfl | hc
   ·exact hbe
   ·rintro rfl
    rcases he with z | z
    ·exact nown c b hc z
    ·rw [hc] at z;cases z;exact hb rfl
end
structure Un (fs ex:List Addr) (H H':Hp) (h h':Heap):Prop where
 keep: ∀ b o,h.get? b=some o->H b=none->b∉fs->b∉ex->h'.get? b=some o
 slot: ∀ b o,h.get? b=some o->H b=none->b∈fs->b∉ex-> ∃ sl,h'.get? b=some {o with slots:=sl}
 free: ∀ b o,h.get? b=some o->H b=none->b∉ex->H' b=none
 there: ∀ b o,h.get? b=some o->b∉ex-> ∃ o',h'.get? b=some o'
 tups: ∀ b xs,H b=some (.tup xs)->H' b=some (.tup xs)
 frzs: ∀ b o u,H b=some (.frz o u)->H' b=some (.frz o u)
 tbls: ∀ b ps,H b=some (.tbl ps)-> ∃ more,H' b=some (.tbl (ps++more))
section
variable {fs fs' ex ex':List Addr} {H H1 H2:Hp} {h h1 h2 h':Heap} {a x e:Addr} {o:HO}
theorem Un.any (u:Un fs ex H H1 h h1) {b:Addr} {ob:Obj} (q:h.get? b=some ob) (n:H b=none) (hx:b∉ex): ∃ sl,h1.get? b=some {ob with slots:=sl}:=by
 by_cases hb:b∈fs
 ·exact u.slot b ob q n hb hx
 ·exact ⟨ob.slots,u.keep b ob q n hb hx⟩
theorem Un.trans (a:Un fs ex H H1 h h1) (b:Un fs ex H1 H2 h1 h2):Un fs ex H H2 h h2 where
 keep:=fun c ob q n hc hx=>b.keep c ob (a.keep c ob q n hc hx) (a.free c ob q n hx) hc hx
 slot:=fun c ob q n hc hx=>by
  obtain ⟨sl,e1⟩:=a.slot c ob q n hc hx
  obtain ⟨sl',e2⟩:=b.slot c _ e1 (a.free c ob q n hx) hc hx
  exact ⟨sl',e2⟩
 free:=fun c ob q n hx=>by
  obtain ⟨o',e1⟩:=a.there c ob q hx
  exact b.free c o' e1 (a.free c ob q n hx) hx
 there:=fun c ob q hx=>by
  obtain ⟨o',e1⟩:=a.there c ob q hx
  exact b.there c o' e1 hx
 tups:=fun c xs q=>b.tups c xs (a.tups c xs q)
 frzs:=fun c ob xs q=>b.frzs c ob xs (a.frzs c ob xs q)
 tbls:=fun c ps q=>by
  obtain ⟨m1,e1⟩:=a.tbls c ps q
  obtain ⟨m2,e2⟩:=b.tbls c _ e1
  exact ⟨m1++m2,by rw [e2,Array.append_assoc]⟩
theorem Un.kept (k: ∀ b u,h.get? b=some u->h'.get? b=some u):Un fs ex H H h h':=
 ⟨fun b ob q _ _ _=>k b ob q,fun b ob q _ _ _=>⟨ob.slots,k b ob q⟩,fun _ _ _ n _=>n,fun b ob q _=>⟨ob,k b ob q⟩,fun _ _ q=>q,fun _ _ _ q=>q,fun _ ps q=>⟨#[],by rw [q];simp⟩⟩
theorem Un.refl:Un fs ex H H h h:=Un.kept fun _ _ q=>q
theorem Un.laid (k: ∀ b u,h.get? b=some u->h'.get? b=some u) (hp:h.objs.size<=a) (hn:H a=none):Un fs ex H (upd H a o) h h' where
 keep:=fun b u q _ _ _=>k b u q
 slot:=fun b u q _ _ _=>⟨u.slots,k b u q⟩
 free:=fun b u q n _=>by rw [zaz (qaR (qaw (qaQ q) hp))];exact n
 there:=fun b u q _=>⟨u,k b u q⟩
 tups:=fun b xs q=>by rw [zaz (zaO q hn)];exact q
 frzs:=fun b u xs q=>by rw [zaz (zaO q hn)];exact q
 tbls:=fun b ps q=>⟨#[],by rw [zaz (zaO q hn),q];simp⟩
theorem Un.write (mu:Mut (H x)) (he:e=x\/H e=some (.own x)) (k: ∀ b u,b≠e->h.get? b=some u->h'.get? b=some u) (heo: ∃ u,h'.get? e=some u):Un fs ex H (upd H x o) h h':=by
 have hx: ∀ b,H b=none->b≠x:=fun b n z=>by subst z;rw [n] at mu;exact mu
 have hb: ∀ b,H b=none->b≠e:=fun b n z=>by
  subst z
  rcases he with r | r
  ·exact hx b n r
  ·rw [n] at r;cases r
 have hm: ∀ b u,H b=some u-> ¬Mut (some u)->b≠x:=fun b u q nm z=>by subst z;rw [q] at mu;exact nm mu
 refine ⟨fun b u q n _ _=>k b u (hb b n) q,fun b u q n _ _=>⟨u.slots,k b u (hb b n) q⟩,fun b u q n _=>by rw [zaz (hx b n)];exact n,fun b u q _=> ?_,
   fun b xs q=>by rw [zaz (hm b _ q fun z=>z)];exact q,fun b u xs q=>by rw [zaz (hm b _ q fun z=>z)];exact q,fun b ps q=>⟨#[],by rw [zaz (hm b _ q fun z=>z),q];simp⟩⟩
 by_cases hbe:b=e
 ·subst hbe;exact heo
 ·exact ⟨u,k b u hbe q⟩
theorem Un.mono (u:Un fs ex H H1 h h1) (hs: ∀ b∈fs,b∈fs') (hx: ∀ b∈ex,b∈ex'):Un fs' ex' H H1 h h1:=
 ⟨fun b ob q n hb he=>u.keep b ob q n (fun z=>hb (hs b z)) fun z=>he (hx b z),fun _ _ q n _ he=>u.any q n fun z=>he (hx _ z),fun b ob q n he=>u.free b ob q n fun z=>he (hx b z),fun b ob q he=>u.there b ob q fun z=>he (hx b z),u.tups,u.frzs,u.tbls⟩
end
noncomputable def trk (h:Heap) (H:Hp):List Addr:=(List.range h.objs.size).filter fun a=>(H a).isSome
noncomputable def zl3 (h:Heap) (H:Hp):Heap:=W.hideAll h (trk h H)
theorem zkA (h:Heap) (H:Hp):(zl3 h H).objs.size=h.objs.size:=W.hideAll_size _ _
theorem zl7 {h:Heap} {H:Hp} {b:Addr} {o:Obj} (e:h.get? b=some o) (n:H b=none):(zl3 h H).get? b=some o:=
 W.hideAll_get _ e fun hm=>by
  have q:(H b).isSome=true:=(List.mem_filter.mp hm).2
  rw [n] at q;simp at q
theorem zoA {h:Heap} {H:Hp} {b:Addr} {o:Obj} (e:(zl3 h H).get? b=some o):h.get? b=some o/\H b=none:=by
 have e':h.get? b=some o:=W.of_hideAll (trk h H) e
 refine ⟨e',?_⟩
 cases q:H b with
 | none=>rfl
 | some x=>
  have hm:b∈trk h H:=List.mem_filter.mpr ⟨List.mem_range.mpr (qaQ e'),by simp [q]⟩
  have z:(zl3 h H).get? b=none:=W.hideAll_none (trk h H) hm
  rw [z] at e;cases e
noncomputable def zoG (g h:Heap) (L:Addr):List (Addr×Obj):=(List.range h.objs.size).filterMap fun a=>if a=L\/(g.get? a).isSome=true then none else (h.get? a).map fun o=>(a,o)
noncomputable def rest (g h:Heap) (L d:Addr):List (Addr×Obj):=(zoG g h L).filter fun p=>decide (p.1≠d)
structure Mod (K:W.Frag) (mg:Str->Option Value) (base:Heap):Prop where
 kin:K.In base
 glob:base.Ns mainGlobals mg
 blt: ∃ mb,base.Ns builtinsNs mb/\ ∀ x:Str,x≠"__name__"->mb x=bootBuiltins x
 nolimit:base.NoLimit
structure Cx where
 prog:Program
 w:World
 K:W.Frag
 mg:Str->Option Value
 base:Heap
 A:Around
 N:List Str
 s₀:Shared
 H₀:Hp
 env:Env
 outer:List Env
 stack:List Env
 ex:List Addr
 fn:Str->Bool
 calm:Bool
 pn:List (Addr×Obj)
 xe:Value->Shared->Prop
noncomputable def frs (l:List Env):List Addr:=l.filterMap (·.frame)
noncomputable abbrev Cx.fs (X:Cx):List Addr:=frs X.outer
def Vis (sc:Scope) (x:Str):Prop:=sc.names.lookup x=some .local\/sc.names.lookup x=some .cell\/sc.names.lookup x=some .free
def Loc (sc:Scope) (x:Str):Prop:=sc.names.lookup x=some .local\/sc.names.lookup x=some .cell
def ztw (env:Env) (h:Heap) (m:Str->Option Value) (x:Str) (u:Value):Prop:=
 (env.kindOf x=some .local/\m x=some u)\/((env.kindOf x=some .cell\/env.kindOf x=some .free)/\ ∃ c,env.cells.lookup x=some c/\h.IsCell c (some u))
def zgI (A:Around) (H:Hp):Prop:=A.handled=none\/ ∃ a o cls head vs,A.handled=some (.ref a)/\H a=some (.frz o (.own 0))/\o.cls=cls/\o.dict=none/\o.data= .fields vs/\vs[2]? = some .none/\vs[1]? = some head
structure Cx.Ok (X:Cx):Prop where
 mod:Mod X.K X.mg X.base
 kind:X.env.scope.kind= .function
 glob:X.env.globals=mainGlobals
 blt:X.env.builtins=builtinsNs
 above:X.s₀.heap.objs.size<=X.env.locals
 inj: ∀ x y c,X.env.cells.lookup x=some c->X.env.cells.lookup y=some c->x=y
 has: ∀ x,(X.env.kindOf x=some .cell\/X.env.kindOf x=some .free)-> ∃ c,X.env.cells.lookup x=some c
 cab: ∀ x c,X.fn x=true->X.env.cells.lookup x=some c->X.s₀.heap.objs.size<=c
 hd:X.calm=true->X.A.handled=none
 hx:zgI X.A X.H₀
 frames:X.A.frames=some X.stack
 stk:X.stack=X.outer\/(X.stack=X.env::X.outer/\X.env.frame=some X.env.locals)
 exf: ∀ b∈X.ex,b≠X.env.locals/\ ∀ x c,X.env.cells.lookup x=some c->c≠b
 bs: ∀ b o,X.base.get? b=some o->X.s₀.heap.get? b=some o/\X.H₀ b=none
 bsz:X.base.objs.size<=X.s₀.heap.objs.size
 noex: ∀ b o,X.base.get? b=some o->b∉X.ex
 exfs: ∀ b∈X.ex,b∉X.fs
 funs:X.s₀.heap.FunFrames X.base X.outer
 frf: ∀ b∈X.fs,X.H₀ b=none
structure Inv (X:Cx) (pins:List (Addr×Obj)) (σ:List (Option V)) (H:Hp) (s:Shared):Prop where
 ok:X.Ok
 os:s.os=X.s₀.os
 bare:AllBare s.gens
 base:Un X.fs X.ex X.H₀ H X.s₀.heap s.heap
 loc: ∃ m,s.heap.Ns X.env.locals m/\ ∀ (i:Nat) (x:Str) (v:V),X.N[i]? = some x->σ[i]? = some (some v)->Vis X.env.scope x-> ∃ u,zby v u/\ztw X.env s.heap m x u
 cell: ∀ x c,X.env.cells.lookup x=some c-> ∃ v,s.heap.IsCell c v
 free:H X.env.locals=none
 freeC: ∀ x c,X.env.cells.lookup x=some c->H c=none
 pin: ∀ p∈X.pn++pins,s.heap.get? p.1=some p.2/\H p.1=none/\p.1≠X.env.locals/\p.1∉X.fs/\ ∀ v,p.2.data≠ .cell v
 hok:HOk X.prog X.w H s.heap
 len:σ.length=X.N.length
section
variable {X:Cx} {pins:List (Addr×Obj)} {σ:List (Option V)} {H H':Hp} {s:Shared} {h':Heap}
theorem Cx.Ok.nofr (ok:X.Ok) {b:Addr} {o:Obj} (e:X.base.get? b=some o):b∉X.fs:=fun hb=>by
 have:=(ok.funs.mem hb).1
 rw [e] at this;cases this
theorem Inv.bs (I:Inv X pins σ H s): ∀ b o,X.base.get? b=some o->s.heap.get? b=some o/\H b=none:=fun b o e=>
 ⟨I.base.keep b o (I.ok.bs b o e).1 (I.ok.bs b o e).2 (I.ok.nofr e) (I.ok.noex b o e),I.base.free b o (I.ok.bs b o e).1 (I.ok.bs b o e).2 (I.ok.noex b o e)⟩
theorem Inv.bk (I:Inv X pins σ H s): ∀ b o,X.base.get? b=some o->s.heap.get? b=some o:=fun b o e=>(I.bs b o e).1
theorem Inv.mod (I:Inv X pins σ H s):Mod X.K X.mg X.base:=I.ok.mod
theorem Inv.kIn (I:Inv X pins σ H s):X.K.In s.heap:=I.ok.mod.kin.keeps I.bk
theorem Inv.nolimit (I:Inv X pins σ H s):s.heap.NoLimit:=I.ok.mod.nolimit.keeps I.bk
theorem Inv.fr (I:Inv X pins σ H s): ∃ m,Fr X.base X.env.locals s.heap m:=
 let ⟨m,hn,_⟩:=I.loc
 ⟨m,hn,I.bk,qaS I.ok.bsz I.ok.above⟩
theorem Inv.lt (I:Inv X pins σ H s):X.env.locals<s.heap.objs.size:=let ⟨_,hn,_⟩:=I.loc;hn.lt
theorem Inv.sz (I:Inv X pins σ H s):X.s₀.heap.objs.size<=s.heap.objs.size:=qaS I.ok.above (Nat.le_of_lt I.lt)
theorem Inv.nofs (I:Inv X pins σ H s) {a:Addr} (h:s.heap.objs.size<=a):a∉X.fs:=fun hb=>by
 obtain ⟨_,o,ho,_⟩:=I.ok.funs.mem hb
 exact absurd (qaw (qaQ ho) (qaS I.sz h)) (qaN _)
theorem Inv.cne (I:Inv X pins σ H s): ∀ x c,X.env.cells.lookup x=some c->c≠X.env.locals:=fun x c e z=>by
 obtain ⟨v,o,ho,hd⟩:=I.cell x c e
 obtain ⟨m,⟨o',es,ep,ho',hd',_⟩,_⟩:=I.loc
 rw [z,ho'] at ho;cases ho;rw [hd'] at hd;cases hd
theorem Inv.funs (I:Inv X pins σ H s):s.heap.FunFrames X.base X.outer:=by
 have all: ∀ (l:List Env),(∀ b∈frs l,b∈X.fs)->X.s₀.heap.FunFrames X.base l->s.heap.FunFrames X.base l:=by
  intro l
  induction l with
  | nil=>intro _ _;trivial
  | cons env r ih=>
   intro hs hl
   obtain ⟨hk,⟨L,o,hf,hn,ho,hd⟩,hr⟩:=hl
   have hL:L∈X.fs:=hs L (by unfold frs;rw [qat,hf];exact qau)
   obtain ⟨sl,e⟩:=I.base.slot L o ho (I.ok.frf L hL) hL fun z=>I.ok.exfs L z hL
   exact ⟨hk,⟨L,_,hf,hn,e,hd⟩,ih (fun b hb=>hs b (by unfold frs;rw [qat,hf];exact qan _ hb)) hr⟩
 exact all X.outer (fun _ hb=>hb) I.ok.funs
theorem Inv.stack (I:Inv X pins σ H s):s.heap.FunFrames X.base X.stack:=by
 rcases I.ok.stk with e | ⟨e,hf⟩
 ·rw [e];exact I.funs
 ·rw [e]
  obtain ⟨m,hn,_⟩:=I.loc
  refine .cons (by rw [I.ok.kind];decide) hf hn ?_ I.funs
  exact Heap.get?_none_of_le (qaS I.ok.bsz I.ok.above)
theorem Inv.stkSub (I:Inv X pins σ H s): ∀ b∈frs X.stack,b∈X.env.locals::X.fs:=fun b hb=>by
 rcases I.ok.stk with e | ⟨e,hf⟩
 ·rw [e] at hb;exact qan _ hb
 ·rw [e] at hb
  unfold frs at hb
  rw [qat,hf] at hb
  exact hb
theorem Inv.stkFree (I:Inv X pins σ H s): ∀ b∈frs X.stack,H b=none:=fun b hb=>by
 rcases qaP.mp (I.stkSub b hb) with e | hb
 ·rw [e];exact I.free
 ·obtain ⟨_,o,ho,_⟩:=I.ok.funs.mem hb
  exact I.base.free b o ho (I.ok.frf b hb) fun z=>I.ok.exfs b z hb
theorem Inv.step {g':Array GenState} {t':Nat} {d':Drawn} {ch:List Addr} (I:Inv X pins σ H s)
  (hch: ∀ b∈ch,(b∈X.ex\/X.s₀.heap.objs.size<=b)/\b≠X.env.locals/\(∀ x c,X.env.cells.lookup x=some c->c≠b)/\ ∀ p∈X.pn++pins,p.1≠b)
  (keep: ∀ b o,b≠X.env.locals->b∉X.fs->b∉ch->s.heap.get? b=some o->H b=none->h'.get? b=some o)
  (slot: ∀ b o,b≠X.env.locals->b∈X.fs->b∉ch->s.heap.get? b=some o->H b=none-> ∃ sl,h'.get? b=some {o with slots:=sl}) (free: ∀ b o,b∉ch->s.heap.get? b=some o->H b=none->H' b=none)
  (there: ∀ b o,b∉ch->s.heap.get? b=some o-> ∃ o',h'.get? b=some o')
  (tups: ∀ b xs,H b=some (.tup xs)->H' b=some (.tup xs)) (frzs: ∀ b o u,H b=some (.frz o u)->H' b=some (.frz o u)) (tbls: ∀ b ps,H b=some (.tbl ps)-> ∃ more,H' b=some (.tbl (ps++more)))
  (ns: ∀ m,s.heap.Ns X.env.locals m->h'.Ns X.env.locals m) (hok:HOk X.prog X.w H' h') (hg:AllBare g'):
  Inv X pins σ H' {s with heap:=h',gens:=g',drawn:=d',toks:=t'}:=by
 have neL: ∀ b o,X.s₀.heap.get? b=some o->b≠X.env.locals:=fun b o e=>qaR (qaw (qaQ e) I.ok.above)
 have neC: ∀ b o,X.s₀.heap.get? b=some o->b∉X.ex->b∉ch:=fun b o e hx hb=>by
  rcases (hch b hb).1 with z | z
  ·exact hx z
  ·exact absurd (qaw (qaQ e) z) (qaN _)
 have cellK: ∀ x c,X.env.cells.lookup x=some c-> ∀ v,s.heap.IsCell c v->h'.IsCell c v:=fun x c e v ⟨o,ho,hd⟩=>by
  have nch:c∉ch:=fun z=>(hch c z).2.2.1 x c e rfl
  by_cases hc:c∈X.fs
  ·obtain ⟨sl,q⟩:=slot c o (I.cne x c e) hc nch ho (I.freeC x c e)
   exact ⟨_,q,hd⟩
  ·exact ⟨o,keep c o (I.cne x c e) hc nch ho (I.freeC x c e),hd⟩
 refine ⟨I.ok,I.os,hg,⟨fun b o e n hb hx=> ?_,fun b o e n hb hx=> ?_,fun b o e n hx=> ?_,fun b o e hx=> ?_,fun b xs e=>tups b xs (I.base.tups b xs e),fun b o xs e=>frzs b o xs (I.base.frzs b o xs e),fun b ps e=> ?_⟩,?_,fun x c e=> ?_,?_,fun x c e=> ?_,fun p hp=> ?_,hok,I.len⟩
 ·exact keep b o (neL b o e) hb (neC b o e hx) (I.base.keep b o e n hb hx) (I.base.free b o e n hx)
 ·obtain ⟨sl,e1⟩:=I.base.slot b o e n hb hx
  obtain ⟨sl',e2⟩:=slot b _ (neL b o e) hb (neC b o e hx) e1 (I.base.free b o e n hx)
  exact ⟨sl',e2⟩
 ·obtain ⟨o',e1⟩:=I.base.there b o e hx
  exact free b o' (neC b o e hx) e1 (I.base.free b o e n hx)
 ·obtain ⟨o',e1⟩:=I.base.there b o e hx
  exact there b o' (neC b o e hx) e1
 ·obtain ⟨m1,e1⟩:=I.base.tbls b ps e
  obtain ⟨m2,e2⟩:=tbls b _ e1
  exact ⟨m1++m2,by rw [e2,Array.append_assoc]⟩
 ·obtain ⟨m,hn,hl⟩:=I.loc
  refine ⟨m,ns m hn,fun i x v e1 e2 e3=> ?_⟩
  obtain ⟨u,r,l⟩:=hl i x v e1 e2 e3
  refine ⟨u,r,?_⟩
  rcases l with l | ⟨k,c,e,z⟩
  ·exact .inl l
  ·exact .inr ⟨k,c,e,cellK x c e _ z⟩
 ·obtain ⟨v,z⟩:=I.cell x c e
  exact ⟨v,cellK x c e v z⟩
 ·obtain ⟨m,⟨o,_,_,ho,_⟩,_⟩:=I.loc
  exact free _ o (fun z=>(hch _ z).2.1 rfl) ho I.free
 ·obtain ⟨v,o,ho,hd⟩:=I.cell x c e
  exact free c o (fun z=>(hch c z).2.2.1 x c e rfl) ho (I.freeC x c e)
 ·obtain ⟨e,n,ne,nf,d⟩:=I.pin p hp
  have nch:p.1∉ch:=fun z=>(hch p.1 z).2.2.2 p hp rfl
  exact ⟨keep p.1 p.2 ne nf nch e n,free p.1 p.2 nch e n,ne,nf,d⟩
theorem Inv.un {t':Nat} (I:Inv X pins σ H s) (u:Un X.fs [] H H' s.heap h') (hok:HOk X.prog X.w H' h'):Inv X pins σ H' {s with heap:=h',toks:=t'}:=by
 obtain ⟨m,⟨o,es,ep,ho,r⟩,_⟩:=id I.loc
 obtain ⟨sl,hL⟩:=u.any ho I.free (by simp)
 exact I.step (g':=s.gens) (d':=s.drawn) (ch:=[]) (fun _ z=>nomatch z) (fun b o _ hb _ e n=>u.keep b o e n hb (by simp)) (fun b o _ hb _ e n=>u.slot b o e n hb (by simp)) (fun b o _ e n=>u.free b o e n (by simp)) (fun b o _ e=>u.there b o e (by simp)) u.tups u.frzs u.tbls (fun m' hm=>by
   obtain ⟨o',es',ep',ho',r'⟩:=hm
   rw [ho] at ho';cases ho'
   exact ⟨_,es',ep',hL,r'⟩) hok I.bare
theorem Inv.call {g':Array GenState} {t':Nat} {d':Drawn} {ch:List Addr} (I:Inv X pins σ H s) (u:Un (frs X.stack) ch H H' s.heap h') (hok:HOk X.prog X.w H' h') (hg:AllBare g')
  (hch: ∀ b∈ch,(b∈X.ex\/X.s₀.heap.objs.size<=b)/\b≠X.env.locals/\(∀ x c,X.env.cells.lookup x=some c->c≠b)/\ ∀ p∈X.pn++pins,p.1≠b):
  Inv X pins σ H' {s with heap:=h',gens:=g',drawn:=d',toks:=t'}:=by
 obtain ⟨m,⟨o,es,ep,ho,r⟩,_⟩:=id I.loc
 obtain ⟨sl,hL⟩:=u.any ho I.free fun z=>(hch _ z).2.1 rfl
 exact I.step (ch:=ch) hch (fun b o hL hb hc e n=>u.keep b o e n (fun z=>(qaP.mp (I.stkSub b z)).elim hL hb) hc) (fun b o _ _ hc e n=>u.any e n hc) (fun b o hc e n=>u.free b o e n hc) (fun b o hc e=>u.there b o e hc) u.tups u.frzs u.tbls (fun m' hm=>by
   obtain ⟨o',es',ep',ho',r'⟩:=hm
   rw [ho] at ho';cases ho'
   exact ⟨_,es',ep',hL,r'⟩) hok hg
theorem Inv.turned {t':Nat} {it:Addr} (I:Inv X pins σ H s) (k: ∀ b o,b≠it->s.heap.get? b=some o->h'.get? b=some o) (hn:H it=none) (hL:it≠X.env.locals)
  (h1:it∈X.ex\/X.s₀.heap.objs.size<=it) (h2: ∀ x c,X.env.cells.lookup x=some c->c≠it) (h3: ∀ p∈X.pn++pins,p.1≠it):Inv X pins σ H {s with heap:=h',toks:=t'}:=by
 have nit: ∀ b u,H b=some u->b≠it:=fun b u e z=>by rw [z,hn] at e;cases e
 refine I.step (g':=s.gens) (d':=s.drawn) (ch:=[it]) (fun b hb=> ?_) (fun b o _ _ hc e _=>k b o (fun z=>hc (by simp [z])) e) (fun b o _ _ hc e _=>⟨o.slots,k b o (fun z=>hc (by simp [z])) e⟩) (fun _ _ _ _ n=>n)
  (fun b o hc e=>⟨o,k b o (fun z=>hc (by simp [z])) e⟩) (fun _ _ e=>e) (fun _ _ _ e=>e) (fun b ps e=>⟨#[],by rw [e];simp⟩) (fun m hm=> ?_) (fun b u e=> ?_) I.bare
 ·have e:b=it:=by simpa using hb
  subst e
  exact ⟨h1,hL,h2,h3⟩
 ·obtain ⟨o,es,ep,ho,r⟩:=hm
  exact ⟨o,es,ep,k _ o (Ne.symm hL) ho,r⟩
 ·refine (I.hok b u e).stay (fun c v hc q=>k c v ?_ q) (fun _ q=>q) fun _ _ q=>q
  rcases hc with z | z
  ·rw [z];exact nit b u e
  ·exact nit c _ z
theorem Inv.tok (I:Inv X pins σ H s) (t:Nat):Inv X pins σ H {s with toks:=t}:=I.un (h':=s.heap) (t':=t) Un.refl I.hok
theorem Inv.kept {t':Nat} (I:Inv X pins σ H s) (k: ∀ b u,s.heap.get? b=some u->h'.get? b=some u):Inv X pins σ H {s with heap:=h',toks:=t'}:=I.un (Un.kept k) (I.hok.kept k)
theorem Inv.laid {a:Addr} {o:HO} {t':Nat} (I:Inv X pins σ H s) (k: ∀ b u,s.heap.get? b=some u->h'.get? b=some u) (hp:s.heap.objs.size<=a) (new:zbM X.prog X.w (upd H a o) h' a o):
  Inv X pins σ (upd H a o) {s with heap:=h',toks:=t'}:=I.un (Un.laid k hp (I.hok.fresh hp)) (I.hok.laid k hp new)
theorem Inv.write {x e:Addr} {o:HO} {t':Nat} (I:Inv X pins σ H s) (mu:Mut (H x)) (he:e=x\/H e=some (.own x)) (k: ∀ b u,b≠e->s.heap.get? b=some u->h'.get? b=some u) (heo: ∃ u,h'.get? e=some u)
  (new:zbM X.prog X.w (upd H x o) h' x o):Inv X pins σ (upd H x o) {s with heap:=h',toks:=t'}:=I.un (Un.write mu he k heo) (I.hok.write mu he k heo new)
theorem Inv.pins_of {pins':List (Addr×Obj)} (I:Inv X pins σ H s) (h: ∀ p∈pins',s.heap.get? p.1=some p.2/\H p.1=none/\p.1≠X.env.locals/\p.1∉X.fs/\ ∀ v,p.2.data≠ .cell v):Inv X pins' σ H s:=
 ⟨I.ok,I.os,I.bare,I.base,I.loc,I.cell,I.free,I.freeC,fun p hp=>(qaK.mp hp).elim (fun z=>I.pin p (List.mem_append_left _ z)) (h p),I.hok,I.len⟩
theorem zfD {N:List Str} (hN:N.Nodup) {i j:Nat} {x:Str} (a:N[i]? = some x) (b:N[j]? = some x):i=j:=by
 obtain ⟨h1,e1⟩:=qac.mp a
 obtain ⟨h2,e2⟩:=qac.mp b
 exact (List.getElem_inj hN).mp (e1.trans e2.symm)
theorem zgl {M:Model} {A:Around} {E:Value->Shared->Prop} {i:Nat} {x:Str} {v:V} {u:Value} {Q:Unit->Shared->Prop} (I:Inv X pins σ H s) (hN:X.N.Nodup) (hi:X.N[i]? = some x) (hx:Loc X.env.scope x) (r:zby v u)
  (h: ∀ s',Inv X pins (σ.set i (some v)) H s'->(∃ a,Heap.SameBut a s.heap s'.heap/\(a=X.env.locals\/X.env.cells.lookup x=some a))->Q () s') (hf:X.fn x=true\/X.env.scope.names.lookup x=some .local:=by first | exact .inl rfl | exact .inr rfl | assumption):wpAny M A (storeName X.env x u) Q E s:=by
 obtain ⟨m,hn,hl⟩:=id I.loc
 have hcls:(X.env.scope.kind== .class || (X.env.scope.kind== .module && X.env.locals != X.env.globals))=false:=by rw [I.ok.kind];rfl
 have hiσ:i<σ.length:=by rw [I.len];exact (qac.mp hi).1
 have cne:=I.cne
 have tracked: ∀ {a:Addr} {h':Heap},(∃ o,s.heap.get? a=some o/\H a=none)->Heap.SameBut a s.heap h'->HOk X.prog X.w H h':=fun {a h'} ha hs b ob e=>by
  obtain ⟨_,_,hfree⟩:=ha
  refine (I.hok b ob e).stay (fun c w' hc q=>(hs.2 c ?_).trans q) (fun _ q=>q) fun _ _ q=>q
  rintro rfl
  rcases hc with rfl | hc
  ·rw [hfree] at e;cases e
  ·rw [hfree] at hc;cases hc
 rcases hx with hk | hk
 ·refine wpAny_storeName_local hk hn (fun h' hn' hs=> ?_) hcls
  obtain ⟨oL,_,_,hoL,_⟩:=id hn
  refine h _ ⟨I.ok,I.os,I.bare,⟨fun b o e n hb hx=> ?_,fun b o e n hb hx=> ?_,I.base.free,fun b o e hx=> ?_,I.base.tups,I.base.frzs,I.base.tbls⟩,⟨_,hn',fun j y v' e1 e2 e3=> ?_⟩,fun y c e=> ?_,I.free,I.freeC,fun p hp=> ?_,tracked ⟨oL,hoL,I.free⟩ hs,by simpa using I.len⟩ ⟨_,hs,.inl rfl⟩
  ·exact (hs.2 b (qaR (qaw (qaQ e) I.ok.above))).trans (I.base.keep b o e n hb hx)
  ·obtain ⟨sl,e1⟩:=I.base.slot b o e n hb hx
   exact ⟨sl,(hs.2 b (qaR (qaw (qaQ e) I.ok.above))).trans e1⟩
  ·obtain ⟨o',e1⟩:=I.base.there b o e hx
   exact ⟨o',(hs.2 b (qaR (qaw (qaQ e) I.ok.above))).trans e1⟩
  ·by_cases hj:j=i
   ·subst hj
    rw [hi] at e1;cases e1
    rw [qai hiσ] at e2
    cases e2
    exact ⟨u,r,.inl ⟨hk,by simp⟩⟩
   ·rw [qao (Ne.symm hj)] at e2
    obtain ⟨u',r',q⟩:=hl j y v' e1 e2 e3
    refine ⟨u',r',?_⟩
    rcases q with ⟨k,e⟩ | ⟨k,c,e,z⟩
    ·refine .inl ⟨k,?_⟩
     have:y≠x:=fun e=>hj (zfD hN e1 (e▸hi))
     simp [this,e]
    ·exact .inr ⟨k,c,e,z.sameBut hs (cne y c e)⟩
  ·obtain ⟨w',z⟩:=I.cell y c e
   exact ⟨w',z.sameBut hs (cne y c e)⟩
  ·obtain ⟨e,n,ne,nf,d⟩:=I.pin p hp
   exact ⟨(hs.2 p.1 ne).trans e,n,ne,nf,d⟩
 ·have hfn:X.fn x=true:=by
   rcases hf with z | z
   ·exact z
   ·rw [z] at hk;cases hk
  obtain ⟨c,hc⟩:=I.ok.has x (.inl hk)
  obtain ⟨w',z⟩:=I.cell x c hc
  refine wpAny_storeName_cell I.ok.kind hk hc z (fun h' hc' hs=> ?_)
  obtain ⟨oc,hoc,hocd⟩:=id z
  refine h {s with heap:=h'} ⟨I.ok,I.os,I.bare,⟨fun b o e n hb hx=> ?_,fun b o e n hb hx=> ?_,I.base.free,fun b o e hx=> ?_,I.base.tups,I.base.frzs,I.base.tbls⟩,⟨m,hn.sameBut hs (Ne.symm (cne x c hc)),fun j y v' e1 e2 e3=> ?_⟩,fun y c' e=> ?_,I.free,I.freeC,fun p hp=> ?_,tracked ⟨oc,hoc,I.freeC x c hc⟩ hs,by simpa using I.len⟩ ⟨c,hs,.inr hc⟩
  ·exact (hs.2 b (qaR (qaw (qaQ e) (I.ok.cab x c hfn hc)))).trans (I.base.keep b o e n hb hx)
  ·obtain ⟨sl,e1⟩:=I.base.slot b o e n hb hx
   exact ⟨sl,(hs.2 b (qaR (qaw (qaQ e) (I.ok.cab x c hfn hc)))).trans e1⟩
  ·obtain ⟨o',e1⟩:=I.base.there b o e hx
   exact ⟨o',(hs.2 b (qaR (qaw (qaQ e) (I.ok.cab x c hfn hc)))).trans e1⟩
  ·by_cases hj:j=i
   ·subst hj
    rw [hi] at e1;cases e1
    rw [qai hiσ] at e2
    cases e2
    exact ⟨u,r,.inr ⟨.inl hk,c,hc,hc'⟩⟩
   ·rw [qao (Ne.symm hj)] at e2
    obtain ⟨u',r',q⟩:=hl j y v' e1 e2 e3
    refine ⟨u',r',?_⟩
    rcases q with q | ⟨k,c',e,z'⟩
    ·exact .inl q
    ·refine .inr ⟨k,c',e,z'.sameBut hs ?_⟩
     rintro rfl
     exact hj (zfD hN e1 (I.ok.inj _ _ _ e hc▸hi))
  ·by_cases hcc:c'=c
   ·subst hcc;exact ⟨_,hc'⟩
   ·obtain ⟨w2,z2⟩:=I.cell y c' e
    exact ⟨w2,z2.sameBut hs hcc⟩
  ·obtain ⟨e,n,ne,nf,d⟩:=I.pin p hp
   refine ⟨(hs.2 p.1 ?_).trans e,n,ne,nf,d⟩
   intro q
   rw [q,hoc] at e
   have q':oc=p.2:=Option.some.inj e
   exact d w' (by rw [<- q'];exact hocd)
theorem zdH {M:Model} {A:Around} {E:Value->Shared->Prop} {i:Nat} {x:Str} {v:V} {u:Value} {Q:Unit->Shared->Prop} (I:Inv X pins σ H s) (hN:X.N.Nodup) (hi:X.N[i]? = some x) (hx:Loc X.env.scope x) (r:zby v u)
  (h: ∀ s',Inv X pins (σ.set i (some v)) H s'->Q () s') (hf:X.fn x=true\/X.env.scope.names.lookup x=some .local:=by first | exact .inl rfl | exact .inr rfl | assumption):wpAny M A (storeName X.env x u) Q E s:=
 zgl I hN hi hx r (fun s' I' _=>h s' I') hf
theorem Inv.call' {s':Shared} {ch:List Addr} (I:Inv X pins σ H s) (ho:s'.os=s.os) (u:Un (frs X.stack) ch H H' s.heap s'.heap) (hok:HOk X.prog X.w H' s'.heap) (hg:AllBare s'.gens)
  (hch: ∀ b∈ch,(b∈X.ex\/X.s₀.heap.objs.size<=b)/\b≠X.env.locals/\(∀ x c,X.env.cells.lookup x=some c->c≠b)/\ ∀ p∈X.pn++pins,p.1≠b):Inv X pins σ H' s':=by
 obtain ⟨h',g',d',t',o'⟩:=s'
 have e:o'=s.os:=ho
 subst e
 exact I.call (g':=g') (t':=t') (d':=d') u hok hg hch
end
noncomputable abbrev XK:=Value->Option Addr->Hp->Prop
noncomputable abbrev St:=List (Option V)
noncomputable abbrev VK:=V->Hp->Prop
noncomputable abbrev TE:=St->Hp->VK->Prop
noncomputable abbrev TT:=St->Hp->(Bool->Hp->Prop)->Prop
noncomputable abbrev TA:=St->Hp->(List V->Hp->Prop)->Prop
structure zmT where
 nx:St->Hp->Prop
 rt:VK
 bk:St->Hp->Prop:=fun _ _=>False
 ct:St->Hp->Prop:=fun _ _=>False
noncomputable abbrev TS:=zmT->St->Hp->Prop
def EP (X:Cx) (pins:List (Addr×Obj)) (σ:St) (Q:VK) (u:Value) (s':Shared):Prop:= ∃ v H',Inv X pins σ H' s'/\zby v u/\Q v H'
def TP (X:Cx) (pins:List (Addr×Obj)) (σ:St) (Q:Bool->Hp->Prop) (b:Bool) (s':Shared):Prop:= ∃ H',Inv X pins σ H' s'/\Q b H'
def AP (X:Cx) (pins:List (Addr×Obj)) (σ:St) (Q:List V->Hp->Prop) (us:List Value) (s':Shared):Prop:= ∃ vs H',Inv X pins σ H' s'/\za2 vs us/\Q vs H'
def SP (X:Cx) (pins:List (Addr×Obj)) (D:zmT) (f:Flow) (s':Shared):Prop:=
 match f with
 | .next=> ∃ σ' H',Inv X pins σ' H' s'/\D.nx σ' H'
 | .brk=> ∃ σ' H',Inv X pins σ' H' s'/\D.bk σ' H'
 | .cont=> ∃ σ' H',Inv X pins σ' H' s'/\D.ct σ' H'
 | .ret u=> ∃ v σ' H',Inv X pins σ' H' s'/\zby v u/\D.rt v H'
def PE (X:Cx) (e:Expr) (t:TE):Prop:=
 ∀ (pins:List (Addr×Obj)) (s:Shared) (σ:St) (H:Hp) (Q:VK),Inv X pins σ H s->t σ H Q->wpAny (model X.prog X.w) X.A (eval e X.env) (EP X pins σ Q) X.xe s
def PT (X:Cx) (e:Expr) (t:TT):Prop:=
 ∀ (pins:List (Addr×Obj)) (s:Shared) (σ:St) (H:Hp) (Q:Bool->Hp->Prop),Inv X pins σ H s->t σ H Q->wpAny (model X.prog X.w) X.A (isTrue e X.env (eval e X.env)) (TP X pins σ Q) X.xe s
def PW (X:Cx) (e:Expr) (t:TT):Prop:=
 ∀ (whole:Sem Value) (pins:List (Addr×Obj)) (s:Shared) (σ:St) (H:Hp) (Q:Bool->Hp->Prop),Inv X pins σ H s->t σ H Q->wpAny (model X.prog X.w) X.A (isTrue e X.env whole) (TP X pins σ Q) X.xe s
theorem PW.pt {X:Cx} {e:Expr} {t:TT} (h:PW X e t):PT X e t:=h _
def PA (X:Cx) (es:List Expr) (t:TA):Prop:=
 ∀ (pos:Pos) (pins:List (Addr×Obj)) (s:Shared) (σ:St) (H:Hp) (Q:List V->Hp->Prop),Inv X pins σ H s->t σ H Q->wpAny (model X.prog X.w) X.A (spliced (backTo pos (starEach es X.env))) (AP X pins σ Q) X.xe s
def PS (X:Cx) (st:Stmt) (t:TS):Prop:=
 ∀ (pins:List (Addr×Obj)) (s:Shared) (σ:St) (H:Hp) (D:zmT),Inv X pins σ H s->t D σ H->wpAny (model X.prog X.w) X.A (exec st X.env) (SP X pins D) X.xe s
def PSs (X:Cx) (st:List Stmt) (t:TS):Prop:=
 ∀ (pins:List (Addr×Obj)) (s:Shared) (σ:St) (H:Hp) (D:zmT),Inv X pins σ H s->t D σ H->wpAny (model X.prog X.w) X.A (execs st X.env) (SP X pins D) X.xe s
theorem thn {α:Type} {t:Sem α} {Q Q':α->Shared->Prop} {M:Model} {A:Around} {E:Value->Shared->Prop} {s:Shared} (h:wpAny M A t Q E s) (hQ: ∀ a s,Q a s->Q' a s):wpAny M A t Q' E s:=qaZ h hQ fun _ _ x=>x
section
variable {X:Cx}
noncomputable def ztg (i:Nat):TE:=fun σ H Q=> ∃ v,σ[i]? = some (some v)/\Q v H
noncomputable def tC (v:V):TE:=fun _ H Q=>Q v H
theorem zmM {i:Nat} {x:Str} {pos:Pos} (hN:X.N[i]? = some x) (hv:Vis X.env.scope x) (hd:(x==("__debug__":Str))=false:=by decide) (hcd:(x==("__classdict__":Str))=false:=by decide):PE X (.Name x pos) (ztg i):=by
 intro pins s σ H Q I h
 obtain ⟨v,e,h⟩:=h
 obtain ⟨m,hn,hl⟩:=I.loc
 obtain ⟨u,r,l⟩:=hl i x v hN e hv
 have fin:EP X pins σ Q u s:=⟨v,H,I,r,h⟩
 rcases l with ⟨hk,hm⟩ | ⟨hk,c,hc,hcell⟩
 ·exact wpAny_Name (wpAny_loadName_local I.ok.kind hk hn hm fin) hd
 ·rcases hk with hk | hk
  ·exact wpAny_Name (wpAny_loadName_cell I.ok.kind hk hc hcell fin) hd
  ·exact wpAny_Name (wpAny_loadName_free I.ok.kind hk hc hcell fin hcd) hd
theorem zra {i j pos}:PE X (.Constant (.int i) j pos) (tC (.int i)):=fun _ _ _ H _ I h=>wpAny_Constant_int ⟨.int i,H,I.tok _,⟨_,rfl⟩,h⟩
theorem zp5 {b j pos}:PE X (.Constant (.bool b) j pos) (tC (.bl b)):=fun _ _ _ H _ I h=>Constant_bool ⟨.bl b,H,I,rfl,h⟩
theorem zqx {j pos}:PE X (.Constant .none j pos) (tC .non):=fun _ _ _ H _ I h=>Constant_none ⟨.non,H,I,rfl,h⟩
theorem zng {x j pos}:PE X (.Constant (.str x) j pos) (tC (.str x)):=fun _ _ _ H _ I h=>Calls.Constant_str ⟨.str x,H,I.tok _,⟨_,rfl⟩,h⟩
def Gl (X:Cx) (x:Str):Prop:=X.env.kindOf x=some .globalImplicit
theorem zhW {E:Value->Shared->Prop} {pins:List (Addr×Obj)} {s:Shared} {σ:St} {H:Hp} {x:Str} {u:Value} {pos:Pos} {Q:Value->Shared->Prop} (I:Inv X pins σ H s) (hg:Gl X x) (hm:X.mg x=some u) (h:Q u s)
  (hd:(x==("__debug__":Str))=false:=by decide):wpAny (model X.prog X.w) X.A (eval (.Name x pos) X.env) Q E s:=
 Calls.Name_function_global I.ok.kind hg (Calls.loadGlobal_global (by rw [I.ok.glob];exact I.mod.glob.keeps I.bk) hm h) hd
theorem zfA {E:Value->Shared->Prop} {pins:List (Addr×Obj)} {s:Shared} {σ:St} {H:Hp} {x:Str} {u:Value} {pos:Pos} {Q:Value->Shared->Prop} (I:Inv X pins σ H s) (hg:Gl X x) (hm:X.mg x=none) (hv:bootBuiltins x=some u) (h:Q u s)
  (hn:x≠"__name__":=by decide) (hd:(x==("__debug__":Str))=false:=by decide):wpAny (model X.prog X.w) X.A (eval (.Name x pos) X.env) Q E s:=by
 obtain ⟨mb,h1,h2⟩:=I.mod.blt
 exact Calls.Name_function_global I.ok.kind hg (Calls.loadGlobal_builtin (by rw [I.ok.glob];exact I.mod.glob.keeps I.bk) hm (by rw [I.ok.blt];exact h1.keeps I.bk) ((h2 x hn).trans hv) h) hd
theorem zhY {x:Str} {v:V} {u:Value} {pos:Pos} (hg:Gl X x) (hm:X.mg x=some u) (r:zby v u) (hd:(x==("__debug__":Str))=false:=by decide):PE X (.Name x pos) (tC v):=
 fun _ _ _ H _ I h=>zhW I hg hm ⟨v,H,I,r,h⟩ hd
theorem zk0 {x:Str} {v:V} {u:Value} {pos:Pos} (hg:Gl X x) (hm:X.mg x=none) (hv:bootBuiltins x=some u) (r:zby v u) (hn:x≠"__name__":=by decide) (hd:(x==("__debug__":Str))=false:=by decide):PE X (.Name x pos) (tC v):=
 fun _ _ _ H _ I h=>zfA I hg hm hv ⟨v,H,I,r,h⟩ hn hd
noncomputable def t2I (ta tb:TE) (k:Int->Int->Hp->Prop):St->Hp->Prop:=fun σ H=>ta σ H fun x H1=>tb σ H1 fun y H2=> ∃ i j,x= .int i/\y= .int j/\k i j H2
variable {a b:Expr} {ta tb:TE} {pos:Pos}
noncomputable def zde (p:Int->Int->Bool) (ta tb:TE):TE:=fun σ H Q=>t2I ta tb (fun i j H2=>Q (.bl (p i j)) H2) σ H
noncomputable def tB (t:TE):TT:=fun σ H Q=>t σ H fun x H1=> ∃ c,x= .bl c/\Q c H1
theorem zqv {e:Expr} {t:TE} (h:PE X e t) (he: ∀ whole,isTrue e X.env whole=(do let v<-whole;standAt e.pos;holding [v] (truthy v)):=by intro _;rfl):PT X e (tB t):=by
 intro pins s σ H Q I hw
 refine isTrue_plain (thn (h pins s σ H _ I hw) fun v s1 ⟨x,H1,I1,r1,q1⟩=> ?_) (he _)
 obtain ⟨d,rfl,q⟩:=q1
 cases r1
 exact wpAny_truthy_bool ⟨H1,I1,q⟩
variable {tA tB':TT} {rest:List Expr}
noncomputable def zqr (t u:TT):TT:=fun σ H Q=>t σ H fun c H1=>if c=true then u σ H1 Q else Q false H1
noncomputable def tOr (t u:TT):TT:=fun σ H Q=>t σ H fun c H1=>if c=true then Q true H1 else u σ H1 Q
noncomputable def zi3 (t:TT):TT:=fun σ H Q=>t σ H fun c H1=>Q (!c) H1
theorem pw_and1 (ha:PT X a tA):PW X (.BoolOp .And [a] pos) tA:=by
 intro wh pins s σ H Q I h
 refine isTrue_and (thn (ha pins s σ H Q I h) fun c s1 e=> ?_)
 cases c with
 | true=>exact isTrue_and_nil e
 | false=>exact e
theorem pw_or1 (ha:PT X a tA):PW X (.BoolOp .Or [a] pos) tA:=by
 intro wh pins s σ H Q I h
 refine isTrue_or (thn (ha pins s σ H Q I h) fun c s1 e=> ?_)
 cases c with
 | false=>exact isTrue_or_nil e
 | true=>exact e
theorem pw_and (ha:PT X a tA) (hb:PW X (.BoolOp .And (b::rest) pos) tB'):PW X (.BoolOp .And (a::b::rest) pos) (zqr tA tB'):=by
 intro wh pins s σ H Q I h
 refine isTrue_and (thn (ha pins s σ H _ I h) fun c s1 ⟨H1,I1,q1⟩=> ?_)
 cases c with
 | true=>exact hb wh pins s1 σ H1 Q I1 q1
 | false=>exact ⟨H1,I1,q1⟩
theorem pw_or (ha:PT X a tA) (hb:PW X (.BoolOp .Or (b::rest) pos) tB'):PW X (.BoolOp .Or (a::b::rest) pos) (tOr tA tB'):=by
 intro wh pins s σ H Q I h
 refine isTrue_or (thn (ha pins s σ H _ I h) fun c s1 ⟨H1,I1,q1⟩=> ?_)
 cases c with
 | true=>exact ⟨H1,I1,q1⟩
 | false=>exact hb wh pins s1 σ H1 Q I1 q1
theorem zqd (ha:PT X a tA):PT X (.UnaryOp .Not a pos) (zi3 tA):=by
 intro pins s σ H Q I h
 exact isTrue_not (ha pins s σ H (fun c H1=>Q (!c) H1) I h)
noncomputable def zr4 (ta tb:TE):TE:=fun σ H Q=>ta σ H fun x H1=> ∃ c,x= .bl c/\if c=true then tb σ H1 Q else Q (.bl false) H1
noncomputable def zsZ (ta:TE):TE:=fun σ H Q=>ta σ H fun x H1=> ∃ c,x= .bl c/\Q (.bl (!c)) H1
theorem zqR {op} {t:TE} (h:PE X a t):PE X (.BoolOp op [a] pos) t:=fun pins s σ H Q I hw=>BoolOp_one (h pins s σ H Q I hw)
theorem zqE (ha:PE X a ta) (hb:PE X (.BoolOp .And (b::rest) pos) tb):PE X (.BoolOp .And (a::b::rest) pos) (zr4 ta tb):=by
 intro pins s σ H Q I h
 refine BoolOp_and (thn (ha pins s σ H _ I h) fun v s1 ⟨x,H1,I1,r1,q1⟩=> ?_)
 obtain ⟨c,rfl,q1⟩:=q1
 cases r1
 refine wpAny_truthy_bool ?_
 cases c with
 | true=>exact hb pins s1 σ H1 Q I1 q1
 | false=>exact ⟨.bl false,H1,I1,rfl,q1⟩
theorem zpB (ha:PE X a ta):PE X (.UnaryOp .Not a pos) (zsZ ta):=by
 intro pins s σ H Q I h
 refine UnaryOp_ (thn (ha pins s σ H _ I h) fun v s1 ⟨x,H1,I1,r1,q1⟩=> ?_)
 obtain ⟨c,rfl,q1⟩:=q1
 cases r1
 exact not_of (wpAny_truthy_bool ⟨.bl (!c),H1,I1,rfl,q1⟩)
noncomputable def tIf (t:TT) (ta tb:TE):TE:=fun σ H Q=>t σ H fun c H1=>if c=true then ta σ H1 Q else tb σ H1 Q
theorem zmz {c:Expr} (hc:PT X c tA) (ha:PE X a ta) (hb:PE X b tb):PE X (.IfExp c a b pos) (tIf tA ta tb):=by
 intro pins s σ H Q I h
 refine wpAny_IfExp (thn (hc pins s σ H _ I h) fun d s1 ⟨H1,I1,q1⟩=> ?_)
 cases d with
 | true=>exact ha pins s1 σ H1 Q I1 q1
 | false=>exact hb pins s1 σ H1 Q I1 q1
end
def SqL (K:W.Frag) (H:Hp) (a:Addr) (xs:List V):Prop:=
 Rd H a (.lst xs)\/
  ∃ (o:Obj) (its:Array Value) (n:Nat),K.lookup a=some o/\o.cls= .type "list"/\o.dict=none/\o.data= .seq its n/\its.size<=sizeLine/\za2 xs its.toList
def SqT (K:W.Frag) (H:Hp) (a:Addr) (xs:List V):Prop:=
 Rd H a (.tup xs)\/
  ∃ (o:Obj) (its:Array Value) (n:Nat),K.lookup a=some o/\o.cls= .type "tuple"/\o.data= .seq its n/\its.size<=sizeLine/\za2 xs its.toList
noncomputable def ztx:Value->Option V
 | .none=>some .non
 | .bool b=>some (.bl b)
 | .int i _=>some (.int i)
 | .str x _=>some (.str x)
 | .bytes b _=>some (.byt b)
 | .float b _=>some (.flt b)
 | .ref a=>some (.ref a)
 | .type n=>some (.ty n)
 | _=>none
theorem zby.abs {x:V} {u:Value} (r:zby x u):ztx u=some x:=by
 cases x with
 | non=>cases r;rfl
 | bl _=>cases r;rfl
 | int _=>obtain ⟨t,rfl⟩:=r;rfl
 | str _=>obtain ⟨t,rfl⟩:=r;rfl
 | byt _=>obtain ⟨t,rfl⟩:=r;rfl
 | flt _=>obtain ⟨t,rfl⟩:=r;rfl
 | ref _=>cases r;rfl
 | ty _=>cases r;rfl
theorem zby.inj {x y:V} {u:Value} (r:zby x u) (q:zby y u):x=y:=Option.some.inj (r.abs.symm.trans q.abs)
theorem za2.inj: ∀ {xs ys:List V} {us:List Value},za2 xs us->za2 ys us->xs=ys
 | _,_,_,.nil,.nil=>rfl
 | _,_,_,.cons r t,.cons r' t'=>by rw [r.inj r',za2.inj t t']
section
variable {X:Cx} {pins:List (Addr×Obj)} {σ:St} {H:Hp} {s:Shared} {a:Addr} {xs ys:List V}
theorem SqL.of {K:W.Frag} (h:H a=some (.lst xs)):SqL K H a xs:= .inl (.inl h)
theorem SqT.of {K:W.Frag} (h:H a=some (.tup xs)):SqT K H a xs:= .inl (.inl h)
theorem Inv.list (I:Inv X pins σ H s) (h:SqL X.K H a xs): ∃ its:List Value,za2 xs its/\PlainL s.heap a its.toArray/\xs.length<=sizeLine:=by
 rcases h with h | ⟨o,its,n,hk,hc,hd,hs,hz,r⟩
 ·obtain ⟨z,its,n,r,e⟩:=h.ok I.hok
  exact ⟨its,r,⟨_,n,e,rfl,rfl,rfl⟩,z⟩
 ·refine ⟨its.toList,r,⟨o,n,I.kIn a o hk,hc,hd,by simpa using hs⟩,?_⟩
  have e:=r.length
  simp only [qas] at e
  omega
theorem Inv.tuple (I:Inv X pins σ H s) (h:SqT X.K H a xs): ∃ its:List Value,za2 xs its/\IsTup s.heap a its.toArray/\xs.length<=sizeLine:=by
 rcases h with h | ⟨o,its,n,hk,hc,hs,hz,r⟩
 ·obtain ⟨z,its,r,p⟩:=h.ok I.hok
  exact ⟨its,r,p,z⟩
 ·refine ⟨its.toList,r,⟨o,I.kIn a o hk,hc,n,by simpa using hs⟩,?_⟩
  have e:=r.length
  simp only [qas] at e
  omega
theorem Inv.list_inj (I:Inv X pins σ H s) (h:SqL X.K H a xs) (h':SqL X.K H a ys):xs=ys:=by
 obtain ⟨its,r,⟨o,n,e,_,_,d⟩,_⟩:=I.list h
 obtain ⟨its',r',⟨o',n',e',_,_,d'⟩,_⟩:=I.list h'
 rw [e] at e';cases e'
 rw [d] at d'
 injection d' with d1 _
 have:its=its':=by simpa using congrArg Array.toList d1
 subst this
 exact r.inj r'
theorem Inv.tuple_inj (I:Inv X pins σ H s) (h:SqT X.K H a xs) (h':SqT X.K H a ys):xs=ys:=by
 obtain ⟨its,r,⟨o,e,_,n,d⟩,_⟩:=I.tuple h
 obtain ⟨its',r',⟨o',e',_,n',d'⟩,_⟩:=I.tuple h'
 rw [e] at e';cases e'
 rw [d] at d'
 injection d' with d1 _
 have:its=its':=by simpa using congrArg Array.toList d1
 subst this
 exact r.inj r'
end
noncomputable abbrev Cx.wish (X:Cx) (E:Value->Shared->Prop):Cx:={X with xe:=E}
noncomputable abbrev Cx.nox (X:Cx):Cx:=X.wish fun _ _=>False
theorem Cx.Ok.wish {X:Cx} (ok:X.Ok) (E:Value->Shared->Prop):(X.wish E).Ok:=
 ⟨ok.mod,ok.kind,ok.glob,ok.blt,ok.above,ok.inj,ok.has,ok.cab,ok.hd,ok.hx,ok.frames,ok.stk,ok.exf,ok.bs,ok.bsz,ok.noex,ok.exfs,ok.funs,ok.frf⟩
theorem Cx.Ok.unwish {X:Cx} {E:Value->Shared->Prop} (ok:(X.wish E).Ok):X.Ok:=
 ⟨ok.mod,ok.kind,ok.glob,ok.blt,ok.above,ok.inj,ok.has,ok.cab,ok.hd,ok.hx,ok.frames,ok.stk,ok.exf,ok.bs,ok.bsz,ok.noex,ok.exfs,ok.funs,ok.frf⟩
section
variable {X:Cx} {pins:List (Addr×Obj)} {σ:St} {H:Hp} {s:Shared} {E:Value->Shared->Prop}
theorem Inv.wish (I:Inv X pins σ H s) (E:Value->Shared->Prop):Inv (X.wish E) pins σ H s:=⟨I.ok.wish E,I.os,I.bare,I.base,I.loc,I.cell,I.free,I.freeC,I.pin,I.hok,I.len⟩
theorem Inv.unwish (I:Inv (X.wish E) pins σ H s):Inv X pins σ H s:=⟨I.ok.unwish,I.os,I.bare,I.base,I.loc,I.cell,I.free,I.freeC,I.pin,I.hok,I.len⟩
theorem SP.unwish {D:zmT} {f:Flow} {s':Shared} (h:SP (X.wish E) pins D f s'):SP X pins D f s':=by
 cases f with
 | next=>obtain ⟨σ',H',I,q⟩:=h;exact ⟨σ',H',I.unwish,q⟩
 | brk=>obtain ⟨σ',H',I,q⟩:=h;exact ⟨σ',H',I.unwish,q⟩
 | cont=>obtain ⟨σ',H',I,q⟩:=h;exact ⟨σ',H',I.unwish,q⟩
 | ret u=>obtain ⟨v,σ',H',I,r,q⟩:=h;exact ⟨v,σ',H',I.unwish,r,q⟩
theorem PE.nox {e:Expr} {t:TE} (h:PE X.nox e t):PE X e t:=fun pins s σ H Q I hw=>
 qaZ (h pins s σ H Q (I.wish _) hw) (fun _ _ ⟨v,H',I',r,q⟩=>⟨v,H',I'.unwish,r,q⟩) fun _ _ z=>qa0 z
theorem PT.nox {e:Expr} {t:TT} (h:PT X.nox e t):PT X e t:=fun pins s σ H Q I hw=>
 qaZ (h pins s σ H Q (I.wish _) hw) (fun _ _ ⟨H',I',q⟩=>⟨H',I'.unwish,q⟩) fun _ _ z=>qa0 z
theorem PSs.nox {st:List Stmt} {t:TS} (h:PSs X.nox st t):PSs X st t:=fun pins s σ H D I hw=>
 qaZ (h pins s σ H D (I.wish _) hw) (fun _ _ q=>q.unwish) fun _ _ z=>qa0 z
end
section
variable {X:Cx} {st:Stmt} {rest:List Stmt} {t u:TS} {e:Expr} {te:TE} {pos:Pos}
noncomputable def zsA:TS:=fun D σ H=>D.nx σ H
noncomputable def ztL (t u:TS):TS:=fun D σ H=>t {D with nx:=u D} σ H
theorem zoi:PSs X [] zsA:=fun _ _ σ H _ I h=>wpAny_execs_nil ⟨σ,H,I,h⟩
theorem zlP (h1:PS X st t) (h2:PSs X rest u):PSs X (st::rest) (ztL t u):=by
 intro pins s σ H D I h
 refine wpAny_execs_cons (thn (h1 pins s σ H {D with nx:=u D} I h) fun f s1 q=> ?_)
 cases f with
 | next=>
  obtain ⟨σ',H',I',q⟩:=q
  exact h2 pins s1 σ' H' D I' q
 | ret v=>exact q
 | brk=>exact q
 | cont=>exact q
theorem znD (h1:PS X st t):PSs X [st] t:=by
 intro pins s σ H D I h
 refine wpAny_execs_cons (thn (h1 pins s σ H D I h) fun f s1 q=> ?_)
 cases f with
 | next=>exact wpAny_execs_nil q
 | ret v=>exact q
 | brk=>exact q
 | cont=>exact q
theorem Inv.quiet {pins:List (Addr×Obj)} {σ:St} {H:Hp} {s:Shared} (I:Inv X pins σ H s):interactive X.env=false:=by simp [interactive,I.ok.kind]
noncomputable def zsD (te:TE):TS:=fun D σ H=>te σ H fun _ H1=>D.nx σ H1
theorem zoa (he:PE X e te) (hs:swapsWith e none pos.line X.env=pure false:=by rfl):PS X (.Expr e pos) (zsD te):=by
 intro pins s σ H D I h
 exact wpAny_Expr_any (thn (he pins s σ H _ I h) fun v s1 ⟨x,H1,I1,r1,q1⟩=>⟨σ,H1,I1,q1⟩) I.quiet hs
noncomputable def ztA (te:TE):TS:=fun D σ H=>te σ H D.rt
theorem zqj (he:PE X e te):PS X (.Return (some e) pos) (ztA te):=by
 intro pins s σ H D I h
 exact wpAny_Return_some (thn (he pins s σ H _ I h) fun v s1 ⟨x,H1,I1,r1,q1⟩=>⟨x,σ,H1,I1,r1,q1⟩)
noncomputable def ztC (c:TT) (t u:TS):TS:=fun D σ H=>c σ H fun b H1=>if b=true then t D σ H1 else u D σ H1
theorem zsM {c:Expr} {a b:List Stmt} {tc:TT} (hc:PT X c tc) (ha:PSs X a t) (hb:PSs X b u):PS X (.If c a b pos) (ztC tc t u):=by
 intro pins s σ H D I h
 refine wpAny_If (thn (hc pins s σ H _ I h) fun d s1 ⟨H1,I1,q1⟩=> ?_)
 cases d with
 | true=>exact ha pins s1 σ H1 D I1 q1
 | false=>exact hb pins s1 σ H1 D I1 q1
end
noncomputable abbrev TG:=V->St->Hp->(St->Hp->Prop)->Prop
noncomputable abbrev TGs:=List V->St->Hp->(St->Hp->Prop)->Prop
def PG (X:Cx) (target:Expr) (t:TG):Prop:=
 ∀ (pins:List (Addr×Obj)) (s:Shared) (σ:St) (H:Hp) (v:V) (u:Value) (Q:St->Hp->Prop),Inv X pins σ H s->zby v u->t v σ H Q->
  wpAny (model X.prog X.w) X.A (assign target X.env u) (fun _ s'=> ∃ σ' H',Inv X pins σ' H' s'/\Q σ' H') X.xe s
def PGs (X:Cx) (ts:List Expr) (t:TGs):Prop:=
 ∀ (pins:List (Addr×Obj)) (s:Shared) (σ:St) (H:Hp) (vs:List V) (us:List Value) (Q:St->Hp->Prop),Inv X pins σ H s->za2 vs us->t vs σ H Q->
  wpAny (model X.prog X.w) X.A (assignInOrder ((assignEach ts X.env).map (·.2)) us) (fun _ s'=> ∃ σ' H',Inv X pins σ' H' s'/\Q σ' H') X.xe s
noncomputable abbrev zpq:=V->V->V->Hp->(Hp->Prop)->Prop
def zoU (X:Cx) (t:zpq):Prop:=
 ∀ (pins:List (Addr×Obj)) (s:Shared) (σ:St) (H:Hp) (o i v:V) (ov iv u:Value) (Q:Hp->Prop),Inv X pins σ H s->zby o ov->zby i iv->zby v u->t o i v H Q->
  wpAny (model X.prog X.w) X.A (setItem ov iv u) (fun _ s'=> ∃ H',Inv X pins σ H' s'/\Q H') X.xe s
section
variable {X:Cx} {pos:Pos}
noncomputable def zoK (i:Nat):TG:=fun v σ H Q=>Q (σ.set i (some v)) H
theorem znw {i:Nat} {x:Str} (hN:X.N.Nodup) (hi:X.N[i]? = some x) (hx:Loc X.env.scope x) (hf:X.fn x=true\/X.env.scope.names.lookup x=some .local:=by first | exact .inl rfl | exact .inr rfl | assumption):PG X (.Name x pos) (zoK i):=by
 intro pins s σ H v u Q I r h
 exact wpAny_assign_Name (zdH I hN hi hx r (fun s' I'=>⟨_,H,I',h⟩) hf)
noncomputable def ztJ:TGs:=fun vs σ H Q=>vs=[]/\Q σ H
noncomputable def zr7 (t:TG) (u:TGs):TGs:=fun vs σ H Q=> ∃ v r,vs=v::r/\t v σ H fun σ' H'=>u r σ' H' Q
theorem zoz:PGs X [] ztJ:=by
 intro pins s σ H vs us Q I r h
 obtain ⟨e,h⟩:=h
 subst e
 cases r
 exact assignInOrder_nil ⟨σ,H,I,h⟩
theorem zmk {e:Expr} {es:List Expr} {t:TG} {u:TGs} (h1:PG X e t) (h2:PGs X es u)
  (hs:(assignEach (e::es) X.env).map (·.2)=assign e X.env::(assignEach es X.env).map (·.2):=by rfl):PGs X (e::es) (zr7 t u):=by
 intro pins s σ H vs us Q I r h
 obtain ⟨v,vr,e1,h⟩:=h
 subst e1
 cases r with
 | cons r rr=>
  rw [hs]
  refine assignInOrder_cons (thn (h1 pins s σ H _ _ _ I r h) fun _ s1 ⟨σ1,H1,I1,q1⟩=> ?_)
  exact h2 pins s1 σ1 H1 _ _ Q I1 rr q1
noncomputable def ztE (K:W.Frag) (n:Nat) (t:TGs):TG:=fun v σ H Q=> ∃ a xs,v= .ref a/\SqT K H a xs/\xs.length=n/\t xs σ H Q
theorem zqt {es:List Expr} {k:Nat} {t:TGs} {n:Nat} (hc:X.calm=true) (h:PGs X es t)
  (hn:(assignEach es X.env).length=n:=by rfl) (hst:(assignEach es X.env).findIdx? (·.1)=none:=by rfl):PG X (.Tuple es k pos) (ztE X.K n t):=by
 intro pins s σ H v u Q I r hw
 obtain ⟨a,xs,e1,hq,hl,hw⟩:=hw
 subst e1
 cases r
 obtain ⟨its,rv,ht,hz⟩:=I.tuple hq
 refine assign_Tuple_tuple (I.ok.hd hc) ht (by simp [hn, <-hl,rv.length]) hst fun h' hx=> ?_
 have I1:Inv X pins σ H {s with heap:=h'}:=I.kept (t':=s.toks) fun b o e=>hx b o (qaR (qaQ e)) e
 exact h pins _ σ H xs _ Q I1 (by simpa using rv) hw
noncomputable def ztd (to ti:TE) (t:zpq):TG:=fun v σ H Q=>to σ H fun o H1=>ti σ H1 fun i H2=>t o i v H2 fun H3=>Q σ H3
theorem zm4 {o i:Expr} {to ti:TE} {t:zpq} (ho:PE X o to) (hi:PE X i ti) (hs:zoU X t)
  (ha: ∀ v,assign (.Subscript o i pos) X.env v=(do
    let ov<-holding [v] (eval o X.env)
    let iv<-holding [v,ov] (eval i X.env)
    standAt pos
    holding [v,ov,iv] (setItem ov iv v)
    release [v,ov,iv] []):=by intro _;rfl):PG X (.Subscript o i pos) (ztd to ti t):=by
 intro pins s σ H v u Q I r h
 rw [ha]
 refine qaW (qaO (thn (ho pins s σ H _ I h) fun ov s1 ⟨x,H1,I1,r1,q1⟩=> ?_))
 refine qaW (qaO (thn (hi pins s1 σ H1 _ I1 q1) fun iv s2 ⟨y,H2,I2,r2,q2⟩=> ?_))
 refine qaW (wpAny_standAt (qaW (qaO (thn (hs pins s2 σ H2 x y v ov iv u _ I2 r1 r2 r q2) fun _ s3 ⟨H3,I3,q3⟩=> ?_))))
 exact wpAny_release ⟨σ,H3,I3,q3⟩
noncomputable def zsL (te:TE) (g:TG):TS:=fun D σ H=>te σ H fun x H1=>g x σ H1 D.nx
theorem zp1 {tg e:Expr} {te:TE} {g:TG} (he:PE X e te) (hg:PG X tg g) (hs:swapsWithSole [tg] e pos.line X.env=pure false:=by rfl) (hw:swappedStores [tg] e X.env=pure none:=by rfl)
  (h1:(assignEach [tg] X.env).map (·.2)=[assign tg X.env]:=by rfl):PS X (.Assign [tg] e pos) (zsL te g):=by
 intro pins s σ H D I h
 refine wpAny_Assign_stores (thn (he pins s σ H _ I h) fun v s1 ⟨x,H1,I1,r1,q1⟩=> ?_) hs hw
 rw [h1]
 exact thn (hg pins s1 σ H1 x v _ I1 r1 q1) fun _ s2 q=>q
theorem zqB {i:Nat} {x:Str} {e:Expr} {te:TE} {pos':Pos} (hN:X.N.Nodup) (hi:X.N[i]? = some x) (hx:Loc X.env.scope x) (he:PE X e te) (hs:swapsWith e (some (.Name x pos')) pos.line X.env=pure false:=by rfl) (hf:X.fn x=true\/X.env.scope.names.lookup x=some .local:=by first | exact .inl rfl | exact .inr rfl | assumption):
  PS X (.Assign [.Name x pos'] e pos) (zsL te (zoK i)):=by
 intro pins s σ H D I h
 refine wpAny_Assign_Name (thn (he pins s σ H _ I h) fun v s1 ⟨y,H1,I1,r1,q1⟩=> ?_) hs
 exact zdH I1 hN hi hx r1 (fun s2 I2=>⟨_,H1,I2,q1⟩) hf
noncomputable def zta (i j:Nat) (ta:TA):TS:=fun D σ H=>ta σ H fun vs H1=> ∃ v w,vs=[v,w]/\D.nx ((σ.set i (some v)).set j (some w)) H1
theorem zrg {i j:Nat} {x y:Str} {a b:Expr} {ta:TA} {px py pt:Pos} {kt k2 pt2} (hc:X.calm=true) (hN:X.N.Nodup) (hi:X.N[i]? = some x) (hj:X.N[j]? = some y) (hij:i≠j)
  (hx:X.env.scope.names.lookup x=some .local) (hy:X.env.scope.names.lookup y=some .local) (ha:PA X [a,b] ta)
  (hw:swappedStores [.Tuple [.Name x px,.Name y py] kt pt] (.Tuple [a,b] k2 pt2) X.env=pure (some [x,y]))
  (hs:swapsWithSole [.Tuple [.Name x px,.Name y py] kt pt] (.Tuple [a,b] k2 pt2) pos.line X.env=pure false:=by rfl):
  PS X (.Assign [.Tuple [.Name x px,.Name y py] kt pt] (.Tuple [a,b] k2 pt2) pos) (zta i j ta):=by
 intro pins s σ H D I h
 rw [exec_Assign_arm]
 refine qaW (wpAny_standAt ?_)
 rw [hs]
 refine qaW (qaX ?_)
 rw [qa5 (by decide)]
 refine qaW (Tuple_ (thn (ha _ pins s σ H _ I h) fun us s1 ⟨vs,H1,I1,r1,q1⟩=> ?_))
 obtain ⟨v,w,e1,q1⟩:=q1
 subst e1
 obtain ⟨u1,u2,rfl,rv,rw'⟩: ∃ u1 u2,us=[u1,u2]/\zby v u1/\zby w u2:=by
  cases r1 with
  | cons p q=>
   cases q with
   | cons p' q'=>
    cases q'
    exact ⟨_,_,rfl,p,p'⟩
 refine qaC ?_ (by show 2<=sizeLine;decide)
 have I2:Inv X pins σ H1 {s1 with heap:=s1.heap.push {cls:= .type "tuple",data:= .seq [u1,u2].toArray}}:=I1.kept (t':=s1.toks) fun b o e=>qag _ e
 rw [hw]
 refine qaW (qaX ?_)
 show wpAny (model X.prog X.w) X.A (do rule "assign.swapped-stores";let items<-unpackItems (.ref s1.heap.objs.size) 2 none;assignInOrder [fun v=>bindName X.env y v,fun v=>bindName X.env x v] items.reverse;pure Flow.next) _ _ _
 refine qaW (wpAny_rule (qaW (unpackItems_tuple (items:= #[u1,u2]) (I.ok.hd hc) (IsTup.new s1.heap _) fun h' hx'=> ?_)))
 have I3:=I2.kept (h':=h') (t':=s1.toks) fun b o e=>hx' b o (qaR (qaQ e)) e
 show wpAny _ _ (assignInOrder [fun v=>bindName X.env y v,fun v=>bindName X.env x v] [u2,u1]>>=fun _=>pure Flow.next) _ _ _
 refine qaW (assignInOrder_cons (wpAny_bindName (zdH I3 hN hj (.inl hy) rw' (fun s2 I4=> ?_) (.inr hy))))
 refine assignInOrder_cons (wpAny_bindName (zdH I4 hN hi (.inl hx) rv (fun s3 I5=>assignInOrder_nil (qaX ?_)) (.inr hx)))
 rw [List.set_comm _ _ (Ne.symm hij)] at I5
 exact ⟨_,H1,I5,q1⟩
end
section
variable {X:Cx} {pos:Pos}
noncomputable def zpH (c:TT) (tb:TS):TS:=fun D σ H=> ∃ W:Nat->St->Hp->Prop,(∃ m,W m σ H)/\ ∀ m σ H,W m σ H->
 c σ H fun b H1=>if b=true then ∃ N:St->Hp->Prop,(∀ σ' H',N σ' H'-> ∃ m',m'<m/\W m' σ' H')/\tb {D with nx:=N,ct:=N,bk:=D.nx} σ H1 else D.nx σ H1
theorem zmj {c:Expr} {body:List Stmt} {tc:TT} {tb:TS} (hp:PassesOwn (model X.prog X.w) X.A X.env X.xe) (hc:PT X c tc) (hb:PSs X body tb):PS X (.While c body [] pos) (zpH tc tb):=by
 intro pins s σ H D I h
 obtain ⟨W,⟨m0,w0⟩,turn⟩:=h
 refine wpAny_While (codeAny_whileLoop (fun n s'=> ∃ σ' H',Inv X pins σ' H' s'/\W n σ' H') ?_ m0 ⟨σ,H,I,w0⟩)
 rintro n s1 ⟨σ1,H1,I1,w1⟩
 refine wpAny_passesOwn hp (thn (hc pins s1 σ1 H1 _ I1 (turn n σ1 H1 w1)) fun b s2 ⟨H2,I2,q2⟩=> ?_)
 cases b with
 | true=>
  obtain ⟨N,hN,q2⟩:=q2
  rw [qa4 rfl]
  refine wpAny_passesOwn hp (thn (hb pins s2 σ1 H2 _ I2 q2) fun f s3 q3=> ?_)
  cases f with
  | next=>
   obtain ⟨σ3,H3,I3,n3⟩:=q3
   obtain ⟨m',hm,w3⟩:=hN σ3 H3 n3
   exact ⟨m',hm,σ3,H3,I3,w3⟩
  | cont=>
   obtain ⟨σ3,H3,I3,n3⟩:=q3
   obtain ⟨m',hm,w3⟩:=hN σ3 H3 n3
   exact ⟨m',hm,σ3,H3,I3,w3⟩
  | brk=>exact q3
  | ret v=>exact q3
 | false=>
  rw [qa5 Bool.false_ne_true]
  exact wpAny_execs_nil ⟨σ1,H2,I2,q2⟩
end
structure It where
 go:Nat->Hp->Prop
 yld:Nat->Hp->V->Hp->Prop
 stop:Nat->Hp->Prop
def ziw (X:Cx) (pins:List (Addr×Obj)) (H:Hp) (b:Addr):Prop:=
 H b=none/\b≠X.env.locals/\b∉X.fs/\(b∈X.ex\/X.s₀.heap.objs.size<=b)/\(∀ x c,X.env.cells.lookup x=some c->c≠b)/\ ∀ p∈X.pn++pins,p.1≠b
theorem Inv.fpOk {X:Cx} {pins:List (Addr×Obj)} {σ:St} {H H':Hp} {s:Shared} {b:Addr} (I:Inv X pins σ H s) (hb:s.heap.objs.size<=b) (hn:H' b=none):ziw X pins H' b:=by
 refine ⟨hn,Nat.ne_of_gt (qaw I.lt hb),I.nofs hb,.inr (qaS I.sz hb),fun x c e z=> ?_,fun p hp z=> ?_⟩
 ·obtain ⟨v,q⟩:=I.cell x c e
  exact absurd (qaw q.lt (by rw [z];exact hb)) (qaN _)
 ·exact absurd (qaw (qaQ (I.pin p hp).1) (by rw [z];exact hb)) (qaN _)
structure zpg (P:Program) (w:World) (K:W.Frag) (tg:Expr) (J:It) (fp:List Addr) (it:Addr) (tn:Nat->Heap->Prop):Prop where
 mem:it∈fp
 obj: ∀ i h,tn i h-> ∀ b∈fp, ∃ o,h.get? b=some o/\ ∀ v,o.data≠ .cell v
 keep: ∀ i h h',tn i h->(∀ b∈fp, ∀ o,h.get? b=some o->h'.get? b=some o)->tn i h'
 item: ∀ (X:Cx),X.prog=P->X.w=w->X.K=K-> ∀ (i:Nat) (pins:List (Addr×Obj)) (s:Shared) (σ:St) (H:Hp) (E:Value->Shared->Prop),Inv X pins σ H s->(∀ b∈fp,ziw X pins H b)->tn i s.heap->J.go i H->
  wpAny (model P w) X.A (pyNext (.ref it)) (fun r s1=> ∃ u,r=some u/\
    wpAny (model P w) X.A (letOwnedTupleGo tg (.ref it) u) (fun _ s2=> ∃ x H',Inv X pins σ H' s2/\zby x u/\J.yld i H x H'/\tn (i+1) s2.heap/\ ∀ b∈fp,H' b=none) E s1) E s
 done: ∀ (X:Cx),X.prog=P->X.w=w->X.K=K-> ∀ (i:Nat) (pins:List (Addr×Obj)) (s:Shared) (σ:St) (H:Hp) (E:Value->Shared->Prop),Inv X pins σ H s->(∀ b∈fp,ziw X pins H b)->tn i s.heap->J.stop i H->
  wpAny (model P w) X.A (pyNext (.ref it)) (fun r s1=>r=none/\Inv X pins σ H s1) E s
 self: ∀ (A:Around) (i:Nat) (s:Shared) (Q:Value->Shared->Prop) (E:Value->Shared->Prop),tn i s.heap->Q (.ref it) s->wpAny (model P w) A (pyIter (.ref it)) Q E s
noncomputable abbrev TI:=St->Hp->(It->Hp->Prop)->Prop
def PIE (X:Cx) (pins:List (Addr×Obj)) (σ:St) (tg:Expr) (R:It->Hp->Prop) (itv:Value) (s2:Shared):Prop:=
 ∃ (it:Addr) (fp:List Addr) (tn:Nat->Heap->Prop) (J:It) (H':Hp),itv= .ref it/\Inv X pins σ H' s2/\zpg X.prog X.w X.K tg J fp it tn/\tn 0 s2.heap/\(∀ b∈fp,ziw X pins H' b)/\R J H'
def PI (X:Cx) (tg iter:Expr) (wi:TI):Prop:=
 ∀ (pins:List (Addr×Obj)) (s:Shared) (σ:St) (H:Hp) (R:It->Hp->Prop),Inv X pins σ H s->wi σ H R->
  wpAny (model X.prog X.w) X.A (eval iter X.env) (fun v s1=>wpAny (model X.prog X.w) X.A (pyIter v) (PIE X pins σ tg R) X.xe s1) X.xe s
theorem zoN {M:Model} {A:Around} {E:Value->Shared->Prop} {s:Shared} {tg:Expr} {it:Addr} {u:Value} {o:Obj} {n:String} {vs:Array Value} {Q:Unit->Shared->Prop} (ho:s.heap.get? it=some o) (hc:o.cls= .type n) (hd:o.data= .fields vs)
  (hn:["enumerate","zip","dict_itemiterator","dict_reverseitemiterator","odict_iterator","itertools.zip_longest","itertools.pairwise"].contains n=false) (hQ:Q () s):wpAny M A (letOwnedTupleGo tg (.ref it) u) Q E s:=by
 unfold letOwnedTupleGo
 cases tg<;>first
  | exact qaX hQ
  | (cases u<;>first
      | exact qaX hQ
      | (refine qaW (wpAny_load ho ?_)
         rw [hc,hd]
         show wpAny M A (if (["enumerate","zip","dict_itemiterator","dict_reverseitemiterator","odict_iterator","itertools.zip_longest","itertools.pairwise"].contains n && vs[0]? == some (rawInt _))=true then _ else _) Q E s
         rw [qa5 (by intro h;rw [hn,Bool.false_and] at h;cases h)]
         exact qaX hQ))
noncomputable def Itl (K:W.Frag) (a:Addr):It:=
 ⟨fun i H=> ∃ xs x,SqL K H a xs/\xs[i]? = some x,fun i H x H'=>H'=H/\ ∀ xs,SqL K H a xs->xs[i]? = some x,fun i H=> ∃ xs,SqL K H a xs/\xs.length<=i⟩
noncomputable def Itt (K:W.Frag) (a:Addr):It:=
 ⟨fun i H=> ∃ xs x,SqT K H a xs/\xs[i]? = some x,fun i H x H'=>H'=H/\ ∀ xs,SqT K H a xs->xs[i]? = some x,fun i H=> ∃ xs,SqT K H a xs/\xs.length<=i⟩
noncomputable def Itr (lo:Int) (n:Nat):It:=⟨fun i _=>i<n,fun i H x H'=>H'=H/\x= .int (lo+i),fun i _=>n<=i⟩
theorem zgI.keep {A:Around} {H H':Hp} (x:zgI A H) (k: ∀ b o u,H b=some (.frz o u)->H' b=some (.frz o u)):zgI A H':=by
 rcases x with x | ⟨a,o,cls,head,vs,x1,x2,x3⟩
 ·exact .inl x
 ·exact .inr ⟨a,o,cls,head,vs,x1,k _ _ _ x2,x3⟩
theorem zgI.at_ {A:Around} {P:Program} {w:World} {H:Hp} {h:Heap} (x:zgI A H) (ok:HOk P w H h):L3.zlv A h:=by
 rcases x with x | ⟨a,o,cls,head,vs,x1,x2,x3⟩
 ·exact .inl x
 ·exact .inr ⟨a,cls,head,x1,o,vs,(ok a _ x2).1,x3⟩
theorem Inv.handA {X:Cx} {pins:List (Addr×Obj)} {σ:St} {H:Hp} {s:Shared} (I:Inv X pins σ H s):zgI X.A H:=I.ok.hx.keep I.base.frzs
theorem Inv.hand {X:Cx} {pins:List (Addr×Obj)} {σ:St} {H:Hp} {s:Shared} (I:Inv X pins σ H s):L3.zlv X.A s.heap:=I.handA.at_ I.hok
theorem zkX {P:Program} {w:World} {K:W.Frag} {tg:Expr} (a it:Addr):zpg P w K tg (Itl K a) [it] it (fun i h=>h.IsListIter it a i) where
 mem:=by simp
 obj:=fun i h st b hb=>by
  have e:b=it:=by simpa using hb
  subst e
  obtain ⟨o,e,c,d⟩:=st
  exact ⟨o,e,fun v z=>by rw [d] at z;cases z⟩
 keep:=fun i h h' st k=>st.at fun o e=>k it (by simp) o e
 item:=by
  intro X hP hw hK i pins s σ H E I hf st hg
  subst hP hw hK
  obtain ⟨xs,x,hq,hx⟩:=hg
  obtain ⟨its,rv,p,hz⟩:=I.list hq
  obtain ⟨u,hu,ru⟩:=rv.get hx
  obtain ⟨f0,f1,f2,f3,f4,f5⟩:=hf it (by simp)
  refine wpAny_pyNext_list_item st p.isList (x:=u) (by simpa using hu) fun h' st' sb=> ?_
  have I1:Inv X pins σ H {s with heap:=h'}:=I.turned (t':=s.toks) (fun b o hb e=>(sb.2 b hb).trans e) f0 f1 f3 f4 f5
  obtain ⟨o,e,c,d⟩:=id st'
  exact ⟨u,rfl,zoN (s:={s with heap:=h'}) e c d (by decide) ⟨x,H,I1,ru,⟨rfl,fun ys hy=>by rw [I.list_inj hy hq];exact hx⟩,st',fun b hb=>(hf b hb).1⟩⟩
 done:=by
  intro X hP hw hK i pins s σ H E I hf st hg
  subst hP hw hK
  obtain ⟨xs,hq,hx⟩:=hg
  obtain ⟨its,rv,p,hz⟩:=I.list hq
  obtain ⟨f0,f1,f2,f3,f4,f5⟩:=hf it (by simp)
  have hl:=rv.length
  exact L3.zh0 I.hand st p.isList (by simp;omega) fun h' eb=>⟨rfl,I.turned (t':=s.toks) (fun b o hb e=>eb b o hb e) f0 f1 f3 f4 f5⟩
 self:=fun _ _ _ _ _ st h=>wpAny_pyIter_listiter st h
theorem ziT {P:Program} {w:World} {K:W.Frag} {tg:Expr} (a it:Addr):zpg P w K tg (Itt K a) [it] it (fun i h=>h.IsTupleIter it a i) where
 mem:=by simp
 obj:=fun i h st b hb=>by
  have e:b=it:=by simpa using hb
  subst e
  obtain ⟨o,e,c,d⟩:=st
  exact ⟨o,e,fun v z=>by rw [d] at z;cases z⟩
 keep:=fun i h h' st k=>st.at fun o e=>k it (by simp) o e
 item:=by
  intro X hP hw hK i pins s σ H E I hf st hg
  subst hP hw hK
  obtain ⟨xs,x,hq,hx⟩:=hg
  obtain ⟨its,rv,p,hz⟩:=I.tuple hq
  obtain ⟨u,hu,ru⟩:=rv.get hx
  obtain ⟨f0,f1,f2,f3,f4,f5⟩:=hf it (by simp)
  refine wpAny_pyNext_tuple_item st (show s.heap.IsTuple a its.toArray from p) (x:=u) (by simpa using hu) fun h' st' sb=> ?_
  have I1:Inv X pins σ H {s with heap:=h'}:=I.turned (t':=s.toks) (fun b o hb e=>(sb.2 b hb).trans e) f0 f1 f3 f4 f5
  obtain ⟨o,e,c,d⟩:=id st'
  exact ⟨u,rfl,zoN (s:={s with heap:=h'}) e c d (by decide) ⟨x,H,I1,ru,⟨rfl,fun ys hy=>by rw [I.tuple_inj hy hq];exact hx⟩,st',fun b hb=>(hf b hb).1⟩⟩
 done:=by
  intro X hP hw hK i pins s σ H E I hf st hg
  subst hP hw hK
  obtain ⟨xs,hq,hx⟩:=hg
  obtain ⟨its,rv,p,hz⟩:=I.tuple hq
  obtain ⟨f0,f1,f2,f3,f4,f5⟩:=hf it (by simp)
  have hl:=rv.length
  exact L3.zjP I.hand st (show s.heap.IsTuple a its.toArray from p) (by simp;omega) fun h' eb=>⟨rfl,I.turned (t':=s.toks) (fun b o hb e=>eb b o hb e) f0 f1 f3 f4 f5⟩
 self:=fun _ _ _ _ _ st h=>wpAny_pyIter_tupleiter st h
theorem zjj {P:Program} {w:World} {K:W.Frag} {tg:Expr} (it:Addr) (lo:Int) (n:Nat):zpg P w K tg (Itr lo n) [it] it (fun i h=>IsRangeIter h it (lo+(i:Nat)*1) ((n:Int) - (i:Nat)) 1) where
 mem:=by simp
 obj:=fun i h st b hb=>by
  have e:b=it:=by simpa using hb
  subst e
  exact ⟨_,st,fun v z=>by
    have z':Data.fields _=Data.cell v:=z
    cases z'⟩
 keep:=fun i h h' st k=>k it (by simp) _ st
 item:=by
  intro X hP hw hK i pins s σ H E I hf st hg
  subst hP hw hK
  obtain ⟨f0,f1,f2,f3,f4,f5⟩:=hf it (by simp)
  refine wpAny_pyNext_range_item st (by have:i<n:=hg;omega) fun h' st' kk=> ?_
  have e1:lo+(i:Nat)*1+1=lo+((i+1:Nat):Int)*1:=by omega
  have e2:(n:Int) - (i:Nat) - 1=(n:Int) - ((i+1:Nat):Int):=by omega
  rw [e1,e2] at st'
  have I1:Inv X pins σ H {s with heap:=h',toks:=s.toks+1}:=I.turned (fun b o hb e=>(kk.2 b hb).trans e) f0 f1 f3 f4 f5
  refine ⟨_,rfl,zoN (s:={s with heap:=h',toks:=s.toks+1}) (n:="range_iterator") st' rfl rfl (by decide) ⟨.int (lo+i),H,I1,⟨s.toks,?_⟩,⟨rfl,rfl⟩,st',fun b hb=>(hf b hb).1⟩⟩
  rw [Int.mul_one]
 done:=by
  intro X hP hw hK i pins s σ H E I hf st hg
  subst hP hw hK
  obtain ⟨f0,f1,f2,f3,f4,f5⟩:=hf it (by simp)
  exact L3.zlb I.hand st (by have:n<=i:=hg;omega) fun h' eb=>⟨rfl,I.turned (t':=s.toks) (fun b o hb e=>eb b o hb e) f0 f1 f3 f4 f5⟩
 self:=fun _ _ _ _ _ st h=>wpAny_pyIter_rangeiter st h
section
variable {X:Cx} {tg:Expr}
theorem zis {pins:List (Addr×Obj)} {σ:St} {H:Hp} {s:Shared} {R:It->Hp->Prop} {E:Value->Shared->Prop} {lo hi:Int} {t u v:Tok} {tk:Nat} (I:Inv X pins σ H s) (h1: -(2^62)<=lo) (h2:lo<2^62) (h3: -(2^62)<=hi) (h4:hi<2^62)
  (q:R (Itr lo (hi - lo).toNat) H):wpAny (model X.prog X.w) X.A (pyIter (.ref s.heap.objs.size)) (PIE X pins σ tg R) E {s with heap:=s.heap.push {cls:= .type "range",data:= .fields #[.int lo t,.int hi u,.int 1 v]},toks:=tk}:=by
 refine wpAny_pyIter_range (IsRange.new ..) (small_one h1 h2 h3 h4) ?_
 have I1:Inv X pins σ H {s with heap:=s.heap.push {cls:= .type "range",data:= .fields #[.int lo t,.int hi u,.int 1 v]},toks:=tk}:=I.kept fun b o e=>qag _ e
 refine ⟨(s.heap.push {cls:= .type "range",data:= .fields #[.int lo t,.int hi u,.int 1 v]}).objs.size,[(s.heap.push {cls:= .type "range",data:= .fields #[.int lo t,.int hi u,.int 1 v]}).objs.size],_,_,H,rfl,
   I1.kept (t':=tk) fun b o e=>qag _ e,zjj _ lo (hi - lo).toNat,?_,fun b hb=> ?_,q⟩
 ·have e1:lo+((0:Nat):Int)*1=lo:=by simp
  have e2:(((hi - lo).toNat:Nat):Int) - ((0:Nat):Int)=Builtin.Range.rangeSize lo hi 1:=by rw [rangeSize_one];split<;>omega
  show IsRangeIter _ _ (lo+((0:Nat):Int)*1) ((((hi - lo).toNat:Nat):Int) - ((0:Nat):Int)) 1
  rw [e1,e2]
  exact qar _ rfl
 ·have e:b=(s.heap.push {cls:= .type "range",data:= .fields #[.int lo t,.int hi u,.int 1 v]}).objs.size:=by simpa using hb
  subst e
  exact I1.fpOk (qaV _) (I1.hok.fresh (qaV _))
noncomputable def zs1 (ta:TA):TI:=fun σ H R=>ta σ H fun vs H1=> ∃ j:Int,vs=[.int j]/\ -(2^62)<=j/\j<2^62/\R (Itr 0 j.toNat) H1
noncomputable def zp6 (ta:TA):TI:=fun σ H R=>ta σ H fun vs H1=> ∃ i j:Int,vs=[.int i,.int j]/\(-(2^62)<=i/\i<2^62/\ -(2^62)<=j/\j<2^62)/\R (Itr i (j - i).toNat) H1
theorem zk8 {a:Expr} {ta:TA} {p pos:Pos} (hg:Gl X "range") (hm:X.mg "range"=none) (ha:PA X [a] ta) (hs:starEach [a] X.env=[(false,eval a X.env)]:=by rfl):PI X tg (.Call (.Name "range" p) [a] [] pos) (zs1 ta):=by
 intro pins s σ H R I h
 refine Call_ (zfA I hg hm boot_range (PyProof.Rows.callWith_type1 (thn (ha pos pins s σ H _ I h) fun us s1 ⟨vs,H1,I1,r1,q1⟩=> ?_) hs rfl))
 obtain ⟨j,e,q1,q2,q⟩:=q1
 subst e
 cases r1 with
 | cons r rr=>
  cases rr
  obtain ⟨t,rfl⟩:=r
  exact call_range_1 (zis I1 (by omega) (by omega) q1 q2 (by simpa using q))
theorem zjC {a b:Expr} {ta:TA} {p pos:Pos} (hg:Gl X "range") (hm:X.mg "range"=none) (ha:PA X [a,b] ta) (hs:starEach [a,b] X.env=[(false,eval a X.env),(false,eval b X.env)]:=by rfl) (hs2:starEach [b] X.env=[(false,eval b X.env)]:=by rfl):
  PI X tg (.Call (.Name "range" p) [a,b] [] pos) (zp6 ta):=by
 intro pins s σ H R I h
 refine Call_ (zfA I hg hm boot_range (PyProof.Rows.callWith_type1 (thn (ha pos pins s σ H _ I h) fun us s1 ⟨vs,H1,I1,r1,q1⟩=> ?_) (by rw [hs,hs2]) (by rw [hs2];rfl)))
 obtain ⟨i,j,e,⟨q1,q2,q3,q4⟩,q⟩:=q1
 subst e
 cases r1 with
 | cons r rr=>
  cases rr with
  | cons r' rr=>
   cases rr
   obtain ⟨t,rfl⟩:=r
   obtain ⟨t',rfl⟩:=r'
   exact call_range_2 (zis I1 q1 q2 q3 q4 q)
noncomputable def ztt (wi:TI) (g:TG) (tb:TS):TS:=fun D σ H=>wi σ H fun J H1=> ∃ W:Nat->Nat->St->Hp->Prop,(∃ m,W 0 m σ H1)/\ ∀ i m σ H,W i m σ H->
 (J.stop i H/\D.nx σ H)\/(J.go i H/\ ∃ N:St->Hp->Prop,(∀ σ' H',N σ' H'-> ∃ m',m'<m/\W (i+1) m' σ' H')/\ ∀ x H',J.yld i H x H'->g x σ H' fun σ2 H2=>tb {D with nx:=N,ct:=N,bk:=D.nx} σ2 H2)
noncomputable def zgv (fp:List Addr) (h:Heap):List (Addr×Obj):=fp.filterMap fun b=>(h.get? b).map fun o=>(b,o)
theorem zdd {fp:List Addr} {h:Heap} {b:Addr} {o:Obj} (hb:b∈fp) (e:h.get? b=some o):(b,o)∈zgv fp h:=List.mem_filterMap.mpr ⟨b,hb,by rw [e];rfl⟩
theorem zkH {fp:List Addr} {h:Heap} {p:Addr×Obj} (hp:p∈zgv fp h):p.1∈fp/\h.get? p.1=some p.2:=by
 obtain ⟨b,hb,e⟩:=List.mem_filterMap.mp hp
 cases q:h.get? b with
 | none=>rw [q] at e;cases e
 | some o=>
  rw [q] at e
  have e':(b,o)=p:=Option.some.inj e
  subst e'
  exact ⟨hb,q⟩
theorem Inv.pinned {pins:List (Addr×Obj)} {σ:St} {H:Hp} {s:Shared} {fp:List Addr} (I:Inv X pins σ H s) (hf: ∀ b∈fp,ziw X pins H b) (ho: ∀ b∈fp, ∃ o,s.heap.get? b=some o/\ ∀ v,o.data≠ .cell v):Inv X (pins++zgv fp s.heap) σ H s:=
 I.pins_of fun p hp=>(qaK.mp hp).elim (fun z=>I.pin p (qak _ z)) fun z=>by
  obtain ⟨hb,e⟩:=zkH z
  obtain ⟨f0,f1,f2,_⟩:=hf p.1 hb
  obtain ⟨o,e',d⟩:=ho p.1 hb
  rw [e] at e';cases e'
  exact ⟨e,f0,f1,f2,d⟩
theorem Inv.unpinned {pins pl:List (Addr×Obj)} {σ:St} {H:Hp} {s:Shared} (I:Inv X (pins++pl) σ H s):Inv X pins σ H s:=I.pins_of fun p hp=>I.pin p (qak _ (List.mem_append_left _ hp))
theorem zpR {iter:Expr} {body:List Stmt} {wi:TI} {g:TG} {tb:TS} {pos:Pos} (hp:PassesOwn (model X.prog X.w) X.A X.env X.xe) (hc:X.calm=true) (hi:PI X tg iter wi) (hg:PG X tg g) (hb:PSs X body tb)
  (hs: ∀ x,foldedSetIterable iter X.env x=pure x:=by intro _;rfl):PS X (.For tg iter body [] pos) (ztt wi g tb):=by
 intro pins s σ H D I h
 refine wpAny_For (thn (hi pins s σ H _ I h) fun v s1 h1=>thn h1 fun itv s2 h2=> ?_) hs
 obtain ⟨it,fp,tn,J,H2,e,I2,T,st2,f2,W,⟨m0,w0⟩,turn⟩:=h2
 subst e
 have stat: ∀ {H':Hp},(∀ b∈fp,H' b=none)-> ∀ b∈fp,ziw X pins H' b:=fun hn b hb=>⟨hn b hb,(f2 b hb).2⟩
 refine codeAny_forLoop_any (fun n s'=> ∃ i σ' H',Inv X pins σ' H' s'/\tn i s'.heap/\(∀ b∈fp,H' b=none)/\W i n σ' H') ?_ m0 ⟨0,σ,H2,I2,st2,fun b hb=>(f2 b hb).1,w0⟩
 rintro n s3 ⟨i,σ3,H3,I3,st3,fr3,w3⟩
 rcases turn i n σ3 H3 w3 with ⟨stop,qn⟩ | ⟨go,N,hN,step⟩
 ·refine wpAny_passesOwn hp (thn (T.done X rfl rfl rfl i pins s3 σ3 H3 X.xe I3 (stat fr3) st3 stop) fun r s4 ⟨hr,I4⟩=> ?_)
  subst hr
  exact wpAny_execs_nil ⟨σ3,H3,I4,qn⟩
 ·refine wpAny_passesOwn hp (thn (T.item X rfl rfl rfl i pins s3 σ3 H3 X.xe I3 (stat fr3) st3 go) fun r s4 ⟨u,hr,h4⟩=> ?_)
  subst hr
  refine wpAny_passesOwn hp (thn h4 fun _ s5 ⟨x,H5,I5,r5,y5,st5,fr5⟩=> ?_)
  have I5':=I5.pinned (stat fr5) (T.obj _ _ st5)
  refine wpAny_passesOwn hp (thn (hg _ s5 σ3 H5 x u _ I5' r5 (step x H5 y5)) fun _ s6 ⟨σ6,H6,I6,q6⟩=> ?_)
  refine wpAny_passesOwn hp (thn (hb _ s6 σ6 H6 _ I6 q6) fun f s7 q7=> ?_)
  have again: ∀ {σ7:St} {H7:Hp},Inv X (pins++zgv fp s5.heap) σ7 H7 s7->N σ7 H7-> ∃ m,m<n/\ ∃ i σ' H',Inv X pins σ' H' s7/\tn i s7.heap/\(∀ b∈fp,H' b=none)/\W i m σ' H':=fun {σ7 H7} I7 n7=>by
   obtain ⟨m',hm,w7⟩:=hN σ7 H7 n7
   refine ⟨m',hm,i+1,σ7,H7,I7.unpinned,T.keep _ _ _ st5 fun b hb o e=>(I7.pin (b,o) (qak _ (qak _ (zdd hb e)))).1,fun b hb=> ?_,w7⟩
   obtain ⟨o,e,d⟩:=T.obj _ _ st5 b hb
   exact (I7.pin (b,o) (qak _ (qak _ (zdd hb e)))).2.1
  cases f with
  | next=>obtain ⟨σ7,H7,I7,n7⟩:=q7;exact again I7 n7
  | cont=>obtain ⟨σ7,H7,I7,n7⟩:=q7;exact again I7 n7
  | brk=>obtain ⟨σ7,H7,I7,q7⟩:=q7;exact ⟨σ7,H7,I7.unpinned,q7⟩
  | ret v=>obtain ⟨x7,σ7,H7,I7,r7,q7⟩:=q7;exact ⟨x7,σ7,H7,I7.unpinned,r7,q7⟩
end
noncomputable abbrev R2:=V->V->Hp->VK->Prop
def OpR (X:Cx) (f:Value->Value->Sem Value) (r:R2):Prop:=
 ∀ (pins:List (Addr×Obj)) (s:Shared) (σ:St) (H:Hp) (x y:V) (v u:Value) (Q:VK),Inv X pins σ H s->zby x v->zby y u->r x y H Q->
  wpAny (model X.prog X.w) X.A (f v u) (EP X pins σ Q) X.xe s
def UnR (X:Cx) (f:Value->Sem Value) (r:V->Hp->VK->Prop):Prop:=
 ∀ (pins:List (Addr×Obj)) (s:Shared) (σ:St) (H:Hp) (x:V) (v:Value) (Q:VK),Inv X pins σ H s->zby x v->r x H Q->
  wpAny (model X.prog X.w) X.A (f v) (EP X pins σ Q) X.xe s
def zaM (X:Cx) (f:Value) (r:List V->Hp->VK->Prop):Prop:=
 ∀ (pins:List (Addr×Obj)) (s:Shared) (σ:St) (H:Hp) (xs:List V) (us:List Value) (Q:VK),Inv X pins σ H s->za2 xs us->r xs H Q->
  wpAny (model X.prog X.w) X.A (call f us) (EP X pins σ Q) X.xe s
noncomputable def tOp (r:R2) (ta tb:TE):TE:=fun σ H Q=>ta σ H fun x H1=>tb σ H1 fun y H2=>r x y H2 Q
noncomputable def tUn (r:V->Hp->VK->Prop) (ta:TE):TE:=fun σ H Q=>ta σ H fun x H1=>r x H1 Q
noncomputable def rI (C:Int->Int->Prop) (g:Int->Int->V):R2:=fun x y H Q=> ∃ i j,x= .int i/\y= .int j/\C i j/\Q (g i j) H
noncomputable def rI0 (g:Int->Int->V):R2:=fun x y H Q=> ∃ i j,x= .int i/\y= .int j/\Q (g i j) H
noncomputable def rU (g:Int->V):V->Hp->VK->Prop:=fun x H Q=> ∃ i,x= .int i/\Q (g i) H
section
variable {X:Cx} {a b c:Expr} {ta tb tc:TE} {pos:Pos}
theorem zsi (ha:PE X a ta) (hb:PE X b tb) {pins:List (Addr×Obj)} {s:Shared} {σ:St} {H:Hp} {R:V->V->Hp->Prop} (I:Inv X pins σ H s)
  (h:ta σ H fun x H1=>tb σ H1 fun y H2=>R x y H2) {Q:Value->Shared->Prop} {f:Value->Value->Sem Value}
  (hf: ∀ v u s2 x y H2,Inv X pins σ H2 s2->zby x v->zby y u->R x y H2->wpAny (model X.prog X.w) X.A (f v u) Q X.xe s2):
  wpAny (model X.prog X.w) X.A (eval a X.env) (fun v s₁=>wpAny (model X.prog X.w) X.A (eval b X.env) (fun u s₂=>wpAny (model X.prog X.w) X.A (f v u) Q X.xe s₂) X.xe s₁) X.xe s:=by
 refine thn (ha pins s σ H _ I h) fun v s1 ⟨x,H1,I1,r1,q1⟩=> ?_
 refine thn (hb pins s1 σ H1 _ I1 q1) fun u s2 ⟨y,H2,I2,r2,q2⟩=> ?_
 exact hf v u s2 x y H2 I2 r1 r2 q2
theorem zsw {op:Operator} {r:R2} (ho:OpR X (binaryOp op) r) (ha:PE X a ta) (hb:PE X b tb):PE X (.BinOp a op b pos) (tOp r ta tb):=by
 intro pins s σ H Q I h
 exact wpAny_BinOp (zsi ha hb I h fun v u s2 x y H2 I2 rx ry q=>ho pins s2 σ H2 x y v u Q I2 rx ry q)
theorem zs2 {op:UnaryOp} {r:V->Hp->VK->Prop} (ho:UnR X (unaryOp op) r) (ha:PE X a ta):PE X (.UnaryOp op a pos) (tUn r ta):=by
 intro pins s σ H Q I h
 exact UnaryOp_ (thn (ha pins s σ H _ I h) fun v s1 ⟨x,H1,I1,r1,q1⟩=>ho pins s1 σ H1 x v Q I1 r1 q1)
theorem opI {f:Value->Value->Sem Value} {C:Int->Int->Prop} {g:Int->Int->Int}
  (rule: ∀ (i j:Int) (t u:Tok) (s:Shared) (Q:Value->Shared->Prop) (E:Value->Shared->Prop),C i j->Q (.int (g i j) s.toks) {s with toks:=s.toks+1}->wpAny (model X.prog X.w) X.A (f (.int i t) (.int j u)) Q E s):
  OpR X f (rI C fun i j=> .int (g i j)):=by
 intro pins s σ H x y v u Q I rx ry h
 obtain ⟨i,j,rfl,rfl,hc,q⟩:=h
 obtain ⟨t,rfl⟩:=rx
 obtain ⟨t',rfl⟩:=ry
 exact rule i j t t' s _ _ hc ⟨.int (g i j),H,I.tok _,⟨_,rfl⟩,q⟩
theorem zr8 {f:Value->Value->Sem Value} {g:Int->Int->Int}
  (rule: ∀ (i j:Int) (t u:Tok) (s:Shared) (Q:Value->Shared->Prop) (E:Value->Shared->Prop),Q (.int (g i j) s.toks) {s with toks:=s.toks+1}->wpAny (model X.prog X.w) X.A (f (.int i t) (.int j u)) Q E s):
  OpR X f (rI0 fun i j=> .int (g i j)):=by
 intro pins s σ H x y v u Q I rx ry h
 obtain ⟨i,j,rfl,rfl,q⟩:=h
 obtain ⟨t,rfl⟩:=rx
 obtain ⟨t',rfl⟩:=ry
 exact rule i j t t' s _ _ ⟨.int (g i j),H,I.tok _,⟨_,rfl⟩,q⟩
theorem zs9 {f:Value->Value->Sem Value} {g:Int->Int->Bool}
  (rule: ∀ (i j:Int) (t u:Tok) (s:Shared) (Q:Value->Shared->Prop) (E:Value->Shared->Prop),Q (.bool (g i j)) s->wpAny (model X.prog X.w) X.A (f (.int i t) (.int j u)) Q E s):
  OpR X f (rI0 fun i j=> .bl (g i j)):=by
 intro pins s σ H x y v u Q I rx ry h
 obtain ⟨i,j,rfl,rfl,q⟩:=h
 obtain ⟨t,rfl⟩:=rx
 obtain ⟨t',rfl⟩:=ry
 exact rule i j t t' s _ _ ⟨.bl (g i j),H,I,rfl,q⟩
def zrD (i j:Int):Prop:=0<=j/\j<=1000000/\i.natAbs<2^64
def zse (i j:Int):Prop:=(-(2^64)<i/\i<2^64)\/(-(2^64)<j/\j<2^64)
theorem zse.ok {i j:Int} (h:zse i j):IntMulOk i j:=by
 rcases h with ⟨h1,h2⟩ | ⟨h1,h2⟩
 ·exact .of_left (intBits_le_64 h1 h2)
 ·exact .of_right (intBits_le_64 h1 h2)
theorem two_pow_nn (k:Nat):(0:Int)<=2^k:=by
 rw [two_pow_cast]
 exact Int.natCast_nonneg _
theorem zpr:OpR X (binaryOp .Add) (rI0 fun i j=> .int (i+j)):=zr8 fun _ _ _ _ _ _ _ q=>add_int q
theorem zpF:OpR X (binaryOp .Sub) (rI0 fun i j=> .int (i - j)):=zr8 fun _ _ _ _ _ _ _ q=>sub_int q
theorem zqb:OpR X (binaryOp .Mult) (rI zse fun i j=> .int (i*j)):=opI fun _ _ _ _ _ _ _ hc q=>mul_int q hc.ok
theorem zrn:OpR X (binaryOp .Mod) (rI (fun _ j=>0<j) fun i j=> .int (i % j)):=opI fun i j _ _ _ _ _ hc q=>by
 have h1:(0:Int)<j:=hc
 exact mod_int' (by omega) (by rw [Int.fmod_eq_emod_of_nonneg i (by omega)];exact q)
theorem zrh:OpR X (binaryOp .Pow) (rI zrD fun i j=> .int (i^j.toNat)):=opI fun _ _ _ _ _ _ _ hc q=>pow_int_small hc.1 hc.2.1 hc.2.2 q
theorem zpt:OpR X (binaryOp .LShift) (rI zrD fun i j=> .int (i*2^j.toNat)):=opI fun _ _ _ _ _ _ _ hc q=>lshift_int_small hc.1 hc.2.1 hc.2.2 q
theorem zqs:OpR X (binaryOp .RShift) (rI (fun _ j=>0<=j) fun i j=> .int (i / 2^j.toNat)):=opI fun i j _ _ _ _ _ hc q=>
 rshift_int hc (by rw [Int.fdiv_eq_ediv_of_nonneg i (two_pow_nn _)];exact q)
theorem zqN:OpR X (binaryOp .BitAnd) (rI0 fun i j=> .int (Builtin.bitAnd i j)):=zr8 fun _ _ _ _ _ _ _ q=>and_int q
theorem unI {f:Value->Sem Value} {g:Int->Int}
  (rule: ∀ (i:Int) (t:Tok) (s:Shared) (Q:Value->Shared->Prop) (E:Value->Shared->Prop),Q (.int (g i) s.toks) {s with toks:=s.toks+1}->wpAny (model X.prog X.w) X.A (f (.int i t)) Q E s):
  UnR X f (rU fun i=> .int (g i)):=by
 intro pins s σ H x v Q I rx h
 obtain ⟨i,rfl,q⟩:=h
 obtain ⟨t,rfl⟩:=rx
 exact rule i t s _ _ ⟨.int (g i),H,I.tok _,⟨_,rfl⟩,q⟩
theorem zqY:UnR X (unaryOp .USub) (rU fun i=> .int (-i)):=unI fun _ _ _ _ _ q=>neg_int q
end
section
variable {X:Cx} {a b c:Expr} {ta tb tc:TE} {pos:Pos}
theorem zgN {pins:List (Addr×Obj)} {σ:St} {H:Hp} {s:Shared} {Q:VK} {k k':Bool} (I:Inv X pins σ H s) (q:Q (.bl k) H) (e:k=k'):EP X pins σ Q (.bool k') s:=by
 subst e
 exact ⟨.bl k,H,I,rfl,q⟩
theorem zrZ:OpR X (compareOp .Lt) (rI0 fun i j=> .bl (decide (i<j))):=zs9 fun _ _ _ _ _ _ _ q=>lt_int q
theorem zsP:OpR X (compareOp .Gt) (rI0 fun i j=> .bl (decide (j<i))):=zs9 fun _ _ _ _ _ _ _ q=>gt_int q
theorem zim:OpR X (compareOp .Is) (fun x y H Q=>y= .non/\Q (.bl (decide (x= .non))) H):=by
 intro pins s σ H x y v u Q I rx ry h
 obtain ⟨rfl,q⟩:=h
 cases ry
 refine is_none_gen (zgN I q ?_)
 cases x<;>first
  | (cases rx;rfl)
  | (obtain ⟨t,rfl⟩:=rx;rfl)
theorem OpR.or {f:Value->Value->Sem Value} {r r':R2} (h:OpR X f r) (h':OpR X f r'):OpR X f (fun x y H Q=>r x y H Q\/r' x y H Q):=by
 intro pins s σ H x y v u Q I rx ry q
 rcases q with q | q
 ·exact h pins s σ H x y v u Q I rx ry q
 ·exact h' pins s σ H x y v u Q I rx ry q
theorem zn3 {op:CmpOp} {r:R2} (ho:OpR X (compareOp op) r) (ha:PE X a ta) (hb:PE X b tb) (hm:behindInMarks op b=false):PE X (.Compare a [op] [b] pos) (tOp r ta tb):=by
 intro pins s σ H Q I h
 exact wpAny_Compare1 (zsi ha hb I h fun v u s2 x y H2 I2 rx ry q=>ho pins s2 σ H2 x y v u Q I2 rx ry q) hm
noncomputable def zrP (t:TE):TT:=fun σ H Q=>t σ H fun x H'=> ∃ k,x= .bl k/\Q k H'
theorem zok {op:CmpOp} {r:R2} (ho:OpR X (compareOp op) r) (ha:PE X a ta) (hb:PE X b tb) (hm:behindInMarks op b=false):PT X (.Compare a [op] [b] pos) (zrP (tOp r ta tb)):=by
 intro pins s σ H Q I h
 refine wpAny_isTrue_Compare1 (thn (ha pins s σ H _ I h) fun v s1 ⟨x,H1,I1,r1,q1⟩=>thn (hb pins s1 σ H1 _ I1 q1) fun u s2 ⟨y,H2,I2,r2,q2⟩=>
   thn (ho pins s2 σ H2 x y v u _ I2 r1 r2 q2) fun c s3 ⟨z,H3,I3,r3,k,e,q3⟩=> ?_) hm
 subst e
 cases r3
 exact wpAny_truthy_bool ⟨H3,I3,q3⟩
theorem zh9:(sizeLine:Nat)<2^63:=by rw [sizeLine_eq];decide
theorem zjl:OpR X (binaryOp .Add) (fun x y H Q=> ∃ i j,x= .str i/\y= .str j/\i.length+j.length<=sizeLine/\Q (.str (i++j)) H):=by
 intro pins s σ H x y v u Q I rx ry h
 obtain ⟨i,j,rfl,rfl,hz,q⟩:=h
 obtain ⟨t,rfl⟩:=rx
 obtain ⟨t',rfl⟩:=ry
 exact add_str (fun t' tk=>⟨.str (i++j),H,I.tok _,⟨_,rfl⟩,q⟩) hz
theorem zd5 {x:V} {us:List Value} (r:za2 [x] us): ∃ u,us=[u]/\zby x u:=by
 cases r with
 | cons r1 r2=>cases r2;exact ⟨_,rfl,r1⟩
theorem zrz {x y:V} {us:List Value} (r:za2 [x,y] us): ∃ u w',us=[u,w']/\zby x u/\zby y w':=by
 cases r with
 | cons r1 r2=>
  cases r2 with
  | cons r3 r4=>cases r4;exact ⟨_,_,rfl,r1,r3⟩
theorem zkB (hc:X.calm=true):zaM X (.builtin "max") (fun xs H Q=> ∃ i j,xs=[.int i,.int j]/\Q (.int (if j>i then j else i)) H):=by
 intro pins s σ H xs us Q I r h
 obtain ⟨i,j,rfl,q⟩:=h
 obtain ⟨u,w',rfl,⟨t,rfl⟩,⟨t',rfl⟩⟩:=zrz r
 refine max_two_ints (I.ok.hd hc) fun h' tk k=>⟨_,H,I.kept k,?_,q⟩
 by_cases hj:j>i
 ·rw [qa4 hj,qa4 hj];exact ⟨_,rfl⟩
 ·rw [qa5 hj,qa5 hj];exact ⟨_,rfl⟩
theorem zkP (hc:X.calm=true):zaM X (.builtin "min") (fun xs H Q=> ∃ i j,xs=[.int i,.int j]/\Q (.int (if j<i then j else i)) H):=by
 intro pins s σ H xs us Q I r h
 obtain ⟨i,j,rfl,q⟩:=h
 obtain ⟨u,w',rfl,⟨t,rfl⟩,⟨t',rfl⟩⟩:=zrz r
 refine min_two_ints (I.ok.hd hc) fun h' tk k=>⟨_,H,I.kept k,?_,q⟩
 by_cases hj:j<i
 ·rw [qa4 hj,qa4 hj];exact ⟨_,rfl⟩
 ·rw [qa5 hj,qa5 hj];exact ⟨_,rfl⟩
theorem zkU:zaM X (.type "int") (fun xs H Q=>(∃ i,xs=[.int i]/\Q (.int i) H)\/ ∃ k,xs=[.bl k]/\Q (.int (if k then 1 else 0)) H):=by
 intro pins s σ H xs us Q I r h
 rcases h with ⟨i,rfl,q⟩ | ⟨k,rfl,q⟩
 ·obtain ⟨u,rfl,t,rfl⟩:=zd5 r
  exact call_int_int ⟨.int i,H,I,⟨_,rfl⟩,q⟩
 ·obtain ⟨u,rfl,r1⟩:=zd5 r
  cases r1
  exact call_int_bool ⟨.int (if k then 1 else 0),H,I.tok _,⟨_,rfl⟩,q⟩
end
structure zsV (h:Heap) (x dx C:Addr) (mA:Str->Option Value):Prop where
 obj:h.get? x=some (W.instObj C dx)
 ns:h.Ns1 dx mA
 ne:dx≠x
theorem zk5 {h:Heap} {dx:Addr} {mA:Str->Option Value} (n:h.Ns1 dx mA): ∃ od,h.get? dx=some od/\ ∀ name,W.lookIn name od=some (mA name):=by
 obtain ⟨o,es,ep,ho,hd,hk,_,hm⟩:=n
 refine ⟨o,ho,fun name=> ?_⟩
 have e:=hm name
 unfold nsFind findBy at e
 rw [<- Array.find?_toList] at e
 unfold W.lookIn
 rw [hd]
 dsimp only
 split
 ·rename_i y q
  rw [q] at e
  exact congrArg some e
 ·rename_i q
  rw [q] at e
  have a:es.toList.any (·.refKey)=false:=by
   rw [List.any_eq_false]
   intro y hy
   obtain ⟨z,t,hkey⟩:=hk y (Array.mem_toList_iff.mp hy)
   simp [DictEntry.refKey,hkey]
  have a': ¬es.toList.any (·.refKey)=true:=by rw [a];exact Bool.false_ne_true
  rw [qa5 a']
  exact congrArg some e
theorem zsV.look {h:Heap} {x dx C:Addr} {mA:Str->Option Value} (I:zsV h x dx C mA): ∃ od,W.InstAt h x (W.instObj C dx) C (some od)/\ ∀ name,W.lookIn name od=some (mA name):=
 let ⟨od,ho,hl⟩:=zk5 I.ns
 ⟨od,⟨I.obj,rfl,rfl,ho⟩,hl⟩
section
variable {prog:Program} {w:World} {A:Around} {E:Value->Shared->Prop} {s:Shared} {K:W.Frag} {x dx C f:Addr} {mA:Str->Option Value} {name:Str} {v:Value}
end
section
variable {P:Program} {w:World} {H H':Hp} {h h':Heap} {a C dx:Addr} {fs fs':List (Str×V)}
theorem znC (hok:HOk P w H h) (e:H a=some (.ins C dx fs)): ∃ mA,zsV h a dx C mA/\(∀ f,zsf (fs.lookup f) (mA f))/\PySem.Within mA (fs.map (·.1))/\fs.length<=1000/\H dx=some (.own a):=by
 obtain ⟨d,z,ne,ob,mA,n,r,q⟩:=(show zbM P w H h a (.ins C dx fs) from hok a _ e)
 exact ⟨mA,⟨ob,n,ne⟩,r,q,z,d⟩
end
structure Cls (K:W.Frag) (C:Addr):Prop where
 pg:W.plainGet K C Str.empty=true
 hd:W.hasDictIn K C=true
 po:W.plainOver K C=true
 sa:W.findIn K (.ref C) "__setattr__"=some (some (.builtin "object.__setattr__"))
theorem Cls.get {K:W.Frag} {C:Addr} (c:Cls K C) (f:Str):W.plainGet K C f=true:=c.pg
structure Con (K:W.Frag) (C:Addr) (f:Str) (v:V) (u:Value):Prop where
 at_:W.findIn K (.ref C) f=some (some u)
 rel:zby v u
 get:W.specialIn K u "__get__"=some none
 cp:W.copiedNames.contains f=false
structure ztO (K:W.Frag) (C:Addr) (m:Str) (f:Addr):Prop where
 at_:W.findIn K (.ref C) m=some (some (.ref f))
 fn:W.isFn K (.ref f)=true
 kp:W.keepIn K (.ref f)=true
section
variable {X:Cx} {pins:List (Addr×Obj)} {σ:St} {H:Hp} {s:Shared} {a C dx:Addr} {fs:List (Str×V)} {f:Str} {v:V} {A:Around} {E:Value->Shared->Prop}
theorem Inv.made (I:Inv X pins σ H s):Inv X pins σ (upd (upd H s.heap.objs.size (.own (s.heap.objs.size+1))) (s.heap.objs.size+1) (.ins C s.heap.objs.size []))
  {s with heap:=(s.heap.push W.emptyDict).push (W.instObj C s.heap.objs.size)}:=by
 have e1:(s.heap.push W.emptyDict).get? s.heap.objs.size=some W.emptyDict:=qar s.heap rfl
 have e2:((s.heap.push W.emptyDict).push (W.instObj C s.heap.objs.size)).get? (s.heap.objs.size+1)=some (W.instObj C s.heap.objs.size):=by
  have:=qar (s.heap.push W.emptyDict) (o:=W.instObj C s.heap.objs.size) rfl
  rwa [qaL] at this
 have e3:(s.heap.push W.emptyDict).Ns s.heap.objs.size (fun _=>none):=⟨W.emptyDict, #[],_,e1,rfl,(fun e he=>absurd he (by simp)),fun _=>rfl⟩
 have I1:=I.laid (a:=s.heap.objs.size) (o:= .own (s.heap.objs.size+1)) (h':=s.heap.push W.emptyDict) (t':=s.toks) (fun b u q=>qag _ q) (qaV _) ⟨_,e1⟩
 refine I1.laid (a:=s.heap.objs.size+1) (o:= .ins C s.heap.objs.size []) (t':=s.toks) (fun b u q=>qag _ q) (Nat.le_of_eq (qaL _ _)) ?_
 have ne:s.heap.objs.size≠s.heap.objs.size+1:=qaR (Nat.lt_succ_self _)
 refine ⟨by rw [zaz ne,zaV],Nat.zero_le _,ne,e2,fun _=>none,(Heap.Ns1.of_empty e3).at fun o q=>qag _ q,fun _=>True.intro,fun y hy=>absurd rfl hy⟩
end
section
variable {X:Cx} {o e value:Expr} {f:Str} {pos pos' tpos:Pos} {ta tv:TE}
end
section
variable {X:Cx} {pins:List (Addr×Obj)} {σ:St} {H:Hp} {s:Shared} {A:Around} {E:Value->Shared->Prop} {Q:Value->Shared->Prop} {c:Value} {b:Bool}
inductive zh6 (K:W.Frag) (H:Hp):V->Value->Prop where
 | non:zh6 K H .non (.type "NoneType")
 | bl (x:Bool):zh6 K H (.bl x) (.type "bool")
 | int (i:Int):zh6 K H (.int i) (.type "int")
 | str (x:Str):zh6 K H (.str x) (.type "str")
 | flt (x:UInt64):zh6 K H (.flt x) (.type "float")
 | lst {a:Addr} {xs:List V} (e:H a=some (.lst xs)):zh6 K H (.ref a) (.type "list")
 | frz {a:Addr} {o:Obj} {xs:List V} (e:H a=some (.frz o (.lst xs))):zh6 K H (.ref a) (.type "list")
 | tup {a:Addr} {xs:List V} (e:H a=some (.tup xs)):zh6 K H (.ref a) (.type "tuple")
 | dK {a:Addr} {kvs:List (Key×V)} (e:H a=some (.dK kvs)):zh6 K H (.ref a) (.type "dict")
 | dT {a:Addr} {kvs:List (List Key×V)} (e:H a=some (.dT kvs)):zh6 K H (.ref a) (.type "dict")
 | ins {a C dx:Addr} {fs:List (Str×V)} (e:H a=some (.ins C dx fs)) (cl:Cls K C) (ha:W.findIn K (.ref C) "__class__"=some (some (.builtin "object.__class__")))
   (hn:W.specialIn K (.builtin "object.__class__") "__get__"=some (some (.builtin "getset_descriptor.__get__"))) (htk:W.takesIn K (.builtin "object.__class__")=some true)
   (hm:W.mroIn K C (.type "object")=some true):zh6 K H (.ref a) (.ref C)
theorem zkM {x:V} {u t:Value} (I:Inv X pins σ H s) (rx:zby x u) (ty:zh6 X.K H x t) (e:W.kitOne X.K t c=some b) (h: ∀ tk,Q (.bool b) {s with toks:=tk}):
  wpAny (model X.prog X.w) A (call (.builtin "isinstance") [u,c]) Q E s:=by
 cases ty with
 | non=>cases (show u=Value.none from rx);exact W.kia_one W.kitx_none I.kIn True.intro e (fun z=>nomatch z) h
 | bl y=>cases (show u=Value.bool y from rx);exact W.kia_one W.kitx_bool I.kIn True.intro e (fun z=>nomatch z) h
 | int i=>obtain ⟨t,q⟩:=(show ∃ t,u=Value.int i t from rx);cases q;exact W.kia_one W.kitx_int I.kIn True.intro e (fun z=>nomatch z) h
 | str y=>obtain ⟨t,q⟩:=(show ∃ t,u=Value.str y t from rx);cases q;exact W.kia_one W.kitx_str I.kIn True.intro e (fun z=>nomatch z) h
 | flt y=>obtain ⟨t,q⟩:=(show ∃ t,u=Value.float y t from rx);cases q;exact W.kia_one W.kitx_float I.kIn True.intro e (fun z=>nomatch z) h
 | @lst a xs ea=>
  cases (show u=Value.ref a from rx)
  obtain ⟨_,_,n,_,h1⟩:=(show zbM X.prog X.w H s.heap a (.lst xs) from I.hok a _ ea)
  exact W.kia_one W.kitx_list I.kIn ⟨_,h1,rfl⟩ e (fun z=>nomatch z) h
 | @frz a ob xs ea=>
  cases (show u=Value.ref a from rx)
  obtain ⟨_,_,_,n,_,h1⟩:=(show zbM X.prog X.w H s.heap a (.frz ob (.lst xs)) from I.hok a _ ea)
  exact W.kia_one W.kitx_list I.kIn ⟨_,h1,rfl⟩ e (fun z=>nomatch z) h
 | @tup a xs ea=>
  cases (show u=Value.ref a from rx)
  obtain ⟨_,_,_,p⟩:=(show zbM X.prog X.w H s.heap a (.tup xs) from I.hok a _ ea)
  obtain ⟨o,h1,h2,_⟩:=p
  exact W.kia_one W.kitx_tuple I.kIn ⟨o,h1,h2⟩ e (fun z=>nomatch z) h
 | @dK a kvs ea=>
  cases (show u=Value.ref a from rx)
  obtain ⟨_,_,vs,_,p⟩:=(show zbM X.prog X.w H s.heap a (.dK kvs) from I.hok a _ ea)
  obtain ⟨o,es,ep,h1,h2,_⟩:=p
  exact W.kia_one W.kitx_dict I.kIn ⟨o,h1,h2.1⟩ e (fun z=>nomatch z) h
 | @dT a kvs ea=>
  cases (show u=Value.ref a from rx)
  obtain ⟨_,_,xs,_,o,es,ep,h1,h2,_⟩:=(show zbM X.prog X.w H s.heap a (.dT kvs) from I.hok a _ ea)
  exact W.kia_one W.kitx_dict I.kIn ⟨o,h1,h2.1⟩ e (fun z=>nomatch z) h
 | @ins a C dx fs ea cl ha hn htk hm=>
  cases (show u=Value.ref a from rx)
  obtain ⟨mA,O,_⟩:=znC I.hok ea
  obtain ⟨od,J,_⟩:=O.look
  exact W.kia_one (W.kitx_own (cl.get _) cl.hd ha hn htk hm) I.kIn J e (fun z=>nomatch z) h
end
structure zds (k:Nat) (A:Around):Prop where
 hd:A.handled=none
 dp:A.depth+3*k+5<recursionLimit
 un:A.units+16*k+200<cLine
theorem zds.mono {j k:Nat} {A:Around} (r:zds k A) (h:j<=k):zds j A:=⟨r.hd,by have:=r.dp;omega,by have:=r.un;omega⟩
theorem zds.deeper {k:Nat} {A:Around} (r:zds (k+1) A) (env:Env):zds k (A.deeper env):=
 ⟨r.hd,by have:=r.dp;show A.depth+1+3*k+5<_;omega,by have:=r.un;show A.units+3+16*k+200<_;omega⟩
theorem zds.in1 {k:Nat} {A:Around} (r:zds (k+1) A):zds k A.in1:=
 ⟨r.hd,by have:=r.dp;show A.depth+3*k+5<_;omega,by have:=r.un;show A.units+1+16*k+200<_;omega⟩
theorem zds.depth {k:Nat} {A:Around} (r:zds k A):A.depth<recursionLimit:=by have:=r.dp;omega
theorem zds.units {k:Nat} {A:Around} (r:zds k A):A.units+64<cLine:=by have:=r.un;omega
noncomputable def ztF:TA:=fun _ H Q=>Q [] H
noncomputable def zrQ (ta:TE) (tr:TA):TA:=fun σ H Q=>ta σ H fun x H1=>tr σ H1 fun xs H2=>Q (x::xs) H2
section
variable {X:Cx} {e:Expr} {es:List Expr} {te:TE} {t:TA} {pos:Pos}
theorem zcV:PA X [] ztF:=fun _ _ _ _ H Q I h=>Calls.spliced_nil ⟨[],H,I,.nil,h⟩
theorem zbt (ha:PE X e te) (hr:PA X es t) (hs:starEach (e::es) X.env=(false,eval e X.env)::starEach es X.env:=by rfl):PA X (e::es) (zrQ te t):=by
 intro pos pins s σ H Q I h
 rw [hs]
 show wpAny _ _ (spliced ((false,eval e X.env)::backTo pos (starEach es X.env))) _ _ s
 refine Calls.spliced_cons (thn (ha pins s σ H _ I h) fun u s1 ⟨x,H1,I1,r1,q1⟩=> ?_)
 exact thn (hr pos pins s1 σ H1 _ I1 q1) fun us s2 ⟨xs,H2,I2,r2,q2⟩=>⟨x::xs,H2,I2,.cons r1 r2,q2⟩
noncomputable def ztD (t:TA):TE:=fun σ H Q=>t σ H fun xs H1=>xs.length<=sizeLine/\ ∀ p,H1 p=none->Q (.ref p) (upd H1 p (.tup xs))
noncomputable def ztj (t:TA):TE:=fun σ H Q=>t σ H fun xs H1=>xs.length<=sizeLine/\ ∀ p,H1 p=none->Q (.ref p) (upd H1 p (.lst xs))
theorem zpE {x1} (h:PA X es t):PE X (.Tuple es x1 pos) (ztD t):=by
 intro pins s σ H Q I hq
 refine wpAny_Tuple_spliced (thn (h pos pins s σ H _ I hq) fun us s1 ⟨xs,H1,I1,r,z,q⟩=>⟨by rw [<- r.length];exact z,?_⟩)
 have hf:H1 s1.heap.objs.size=none:=I1.hok.fresh (qaV _)
 refine ⟨.ref s1.heap.objs.size,upd H1 s1.heap.objs.size (.tup xs),I1.laid (t':=s1.toks) (fun b u e=>qag _ e) (qaV _) ?_,rfl,q _ hf⟩
 exact ⟨z,us,r,⟨_,qar _ rfl,rfl,_,rfl⟩⟩
theorem zku (h:PA X es t):PE X (.List es pos) (ztj t):=by
 intro pins s σ H Q I hq
 refine wpAny_List_spliced (thn (h pos pins s σ H _ I hq) fun us s1 ⟨xs,H1,I1,r,z,q⟩=>⟨by rw [<- r.length];exact z,?_⟩)
 have hf:H1 s1.heap.objs.size=none:=I1.hok.fresh (qaV _)
 refine ⟨.ref s1.heap.objs.size,upd H1 s1.heap.objs.size (.lst xs),I1.laid (t':=s1.toks) (fun b u e=>qag _ e) (qaV _) ?_,rfl,q _ hf⟩
 exact ⟨z,us,0,r,qar _ rfl⟩
end
noncomputable abbrev Sp:=List V->Hp->VK->XK->Prop
noncomputable abbrev CXT:=List Env->Hp->Shared->XK->Value->Shared->Prop
structure zlR (P:Program) (w:World) (K:W.Frag) (mg:Str->Option Value) (base:Heap) (A:Around) (outer:List Env) (s:Shared) (H:Hp):Prop where
 frames:A.frames=some outer
 mod:Mod K mg base
 bs: ∀ b o,base.get? b=some o->s.heap.get? b=some o/\H b=none
 bsz:base.objs.size<=s.heap.objs.size
 funs:s.heap.FunFrames base outer
 frf: ∀ b∈frs outer,H b=none
 hok:HOk P w H s.heap
 bare:AllBare s.gens
 hand:zgI A H
def CE (outer:List Env) (P:Program) (w:World) (H:Hp) (s:Shared) (Q:VK) (u:Value) (s':Shared):Prop:=
 ∃ v H',s'.os=s.os/\AllBare s'.gens/\Un (frs outer) [] H H' s.heap s'.heap/\HOk P w H' s'.heap/\zby v u/\Q v H'
def CR (CX:CXT) (outer:List Env) (P:Program) (w:World) (H:Hp) (s:Shared) (Q:VK) (E:XK) (r:Result) (s':Shared):Prop:=
 match r with
 | .ok (.ret u)=>CE outer P w H s Q u s'
 | .ok _=>False
 | .error e=>CX outer H s E e s'
structure zbw (P:Program) (w:World) (K:W.Frag) (mg:Str->Option Value) (base:Heap) (CX:CXT) (k:Nat) (f:Addr) (fd:FuncData) (ps:List Str) (sp:Sp):Prop where
 len: ∀ vs H Q E,sp vs H Q E->vs.length=ps.length
 run: ∀ (A:Around) (outer:List Env) (s:Shared) (H:Hp) (args:Args) (us:List Value) (vs:List V) (Q:VK) (E:XK),zds k A->zlR P w K mg base A outer s H->BindsTo s fd args (ps.zip us)->za2 vs us->sp vs H Q E->
  codeAny (model P w) A (.call (.ref f) args) (CR CX outer P w H s Q E) s
theorem zbw.mono {P:Program} {w:World} {K:W.Frag} {mg:Str->Option Value} {base:Heap} {CX:CXT} {j k:Nat} {f:Addr} {fd:FuncData} {ps:List Str} {sp:Sp} (F:zbw P w K mg base CX j f fd ps sp) (h:j<=k):
  zbw P w K mg base CX k f fd ps sp:=⟨F.len,fun A outer s H args us vs Q E hr=>F.run A outer s H args us vs Q E (hr.mono h)⟩
theorem zbw.imp {P:Program} {w:World} {K:W.Frag} {mg:Str->Option Value} {base:Heap} {CX:CXT} {k:Nat} {f:Addr} {fd:FuncData} {ps:List Str} {sp sp':Sp} (F:zbw P w K mg base CX k f fd ps sp)
  (h: ∀ vs H Q E,sp' vs H Q E->sp vs H Q E):zbw P w K mg base CX k f fd ps sp':=
 ⟨fun vs H Q E q=>F.len vs H Q E (h _ _ _ _ q),fun A outer s H args us vs Q E hr he hb hv hs=>F.run A outer s H args us vs Q E hr he hb hv (h _ _ _ _ hs)⟩
theorem zlR.in1 {P:Program} {w:World} {K:W.Frag} {mg:Str->Option Value} {base:Heap} {A:Around} {outer:List Env} {s:Shared} {H:Hp} (e:zlR P w K mg base A outer s H):
  zlR P w K mg base A.in1 outer s H:=⟨e.frames,e.mod,e.bs,e.bsz,e.funs,e.frf,e.hok,e.bare,e.hand⟩
section
variable {X:Cx} {pins:List (Addr×Obj)} {σ:St} {H:Hp} {s s':Shared}
theorem Inv.env0 (I:Inv X pins σ H s):zlR X.prog X.w X.K X.mg X.base X.A X.stack s H:=
 ⟨I.ok.frames,I.ok.mod,I.bs,qaS I.ok.bsz I.sz,I.stack,I.stkFree,I.hok,I.bare,I.handA⟩
theorem Inv.after {Q:VK} {u:Value} (I:Inv X pins σ H s) (h:CE X.stack X.prog X.w H s Q u s'):EP X pins σ Q u s':=by
 obtain ⟨v,H',os,bare,un,hok,r,q⟩:=h
 obtain ⟨hh,g,d,t,os'⟩:=s'
 obtain rfl:os'=s.os:=os
 exact ⟨v,H',I.call (h':=hh) (g':=g) (d':=d) (t':=t) (ch:=[]) un hok bare (fun b z=>absurd z (by simp)),r,q⟩
end
noncomputable def zr6 (sp:Sp) (dvs:List V) (E:XK) (t:TA):TE:=fun σ H Q=>t σ H fun vs H1=>sp (vs++dvs) H1 Q E
def zaH (K:W.Frag) (fd:FuncData) (ps:List Str) (ds:List Value):Prop:=
 ∀ (s:Shared) (us:List Value),K.In s.heap->(us++ds).length=ps.length->BindsTo s fd ⟨us,[]⟩ (ps.zip (us++ds))
theorem zaH.all {K:W.Frag} {fd:FuncData} {ps:List Str} (h: ∀ us:List Value,us.length=ps.length->bindArgs fd ⟨us,[]⟩=pure (ps.zip us)):zaH K fd ps []:=fun s us _ hl=>by
 rw [List.append_nil] at hl ⊢
 exact .of_eq (h us hl)
def zc3 (CX:CXT) (X:Cx) (E:XK):Prop:= ∀ (pins:List (Addr×Obj)) (σ:St) (H:Hp) (s:Shared) (e:Value) (s':Shared),Inv X pins σ H s->CX X.stack H s E e s'->X.xe e s'
section
variable {X:Cx} {CX:CXT} {k:Nat} {f C:Addr} {fd:FuncData} {ps:List Str} {sp:Sp} {dvs:List V} {ds:List Value} {E:XK} {x m:Str} {p pos apos:Pos} {e o:Expr} {es:List Expr} {ta:TE} {t:TA}
theorem zni {pins:List (Addr×Obj)} {σ:St} {H:Hp} {s:Shared} {Q:VK} {us:List Value} {vs:List V} (F:zbw X.prog X.w X.K X.mg X.base CX k f fd ps sp) (hr:zds k X.A) (hb:zaH X.K fd ps ds) (hd:za2 dvs ds) (hx:zc3 CX X E)
  (I:Inv X pins σ H s) (r:za2 vs us) (h:sp (vs++dvs) H Q E):wpAny (model X.prog X.w) X.A (call (.ref f) us) (EP X pins σ Q) X.xe s:=by
 have r2:za2 (vs++dvs) (us++ds):=r.append hd
 have hl:(us++ds).length=ps.length:=by rw [<- r2.length];exact F.len _ _ _ _ h
 refine wpAny_call (codeAny_mono (F.run X.A X.stack s H ⟨us,[]⟩ (us++ds) (vs++dvs) Q E hr I.env0 (hb s us I.kIn hl) r2 h) fun r s' hq=> ?_)
 cases r with
 | error e=>exact hx pins σ H s e s' I hq
 | ok fl=>
  cases fl with
  | ret u=>exact I.after hq
  | next=>exact qa0 hq
  | brk=>exact qa0 hq
  | cont=>exact qa0 hq
theorem zhN (F:zbw X.prog X.w X.K X.mg X.base CX k f fd ps sp) (hr:zds k X.A) (hg:Gl X x) (hm:X.mg x=some (.ref f)) (hk:W.keepIn X.K (.ref f)=true) (hb:zaH X.K fd ps ds) (hd:za2 dvs ds) (hx:zc3 CX X E)
  (ha:PA X (e::es) t) (hdb:(x==("__debug__":Str))=false:=by decide) (he:starEach (e::es) X.env=(false,eval e X.env)::starEach es X.env:=by rfl) (hpl:(backTo pos (starEach es X.env)).any (·.1)=false:=by rfl):
  PE X (.Call (.Name x p) (e::es) [] pos) (zr6 sp dvs E t):=by
 intro pins s σ H Q I h
 refine wpAny_Call_Name_kw (zhW I hg hm ?_ hdb)
 refine W.callWith_K (h₀:=X.base) I.ok.mod.kin hk (thn (ha pos pins s σ H _ I h) fun us s1 ⟨vs,H1,I1,r,q⟩=>⟨I1.kIn,?_⟩) he hpl
 exact zni F hr hb hd hx I1 r q
structure Mk (K:W.Frag) (C f:Addr):Prop where
 makes:W.makesIn K C=true
 init:W.findIn K (.ref C) "__init__"=some (some (.ref f))
 fn:W.isFn K (.ref f)=true
 kp:W.keepIn K (.ref C)=true
end
section
variable {X:Cx} {CX:CXT} {k:Nat} {f C:Addr} {fd:FuncData} {ps ks:List Str} {sp:Sp} {E:XK} {x m:Str} {p pos apos kpos:Pos} {e o:Expr} {es:List Expr} {kws:List Keyword} {te ta:TE} {t tk:TA} {nm:Option Str}
structure ztc (K:W.Frag) (fd:FuncData) (ps ks:List Str) (g:List Value->List Value->List Value) (gV:List V->List V->List V):Prop where
 to: ∀ (s:Shared) (us ws:List Value),K.In s.heap->(g us ws).length=ps.length->BindsTo s fd ⟨us,ks.zip ws⟩ (ps.zip (g us ws))
 rel: ∀ {vs:List V} {us:List Value} {zs:List V} {ws:List Value},za2 vs us->za2 zs ws->za2 (gV vs zs) (g us ws)
variable {g:List Value->List Value->List Value} {gV:List V->List V->List V}
end
structure zaq (N P:List Str) (sc:Scope):Prop where
 kind:sc.kind= .function
 co:sc.isCoroutine=false
 gen:sc.isGenerator=false
 nd:N.Nodup
 pre:N.take P.length=P
 par: ∀ x∈P,sc.names.lookup x=some .local\/sc.names.lookup x=some .cell
 nofree: ∀ y∈sc.names,y.2≠ .free
theorem zgj {kindOf:Str->Option NameKind} {x:Str}: ∀ {binds:List (Str×Value)} {m:Str->Option Value},(∀ v,(x,v)∉binds)->bindL kindOf binds m x=m x
 | [],_,_=>rfl
 | (n,v)::r,m,h=>by
  unfold bindL
  rw [zgj fun w hw=>h w (qan _ hw)]
  split
  ·have:x≠n:=by rintro rfl;exact h v qau
   simp [this]
  ·rfl
theorem zgP {kindOf:Str->Option NameKind} {x:Str}: ∀ {binds:List (Str×Value)} {m:Str->Option Value},(∀ v,(x,v)∉binds)->bindC kindOf binds m x=m x
 | [],_,_=>rfl
 | (n,v)::r,m,h=>by
  unfold bindC
  rw [zgP fun w hw=>h w (qan _ hw)]
  split
  ·rfl
  ·have:x≠n:=by rintro rfl;exact h v qau
   simp [this]
theorem zg1 {kindOf:Str->Option NameKind} {x:Str} {v:Value}: ∀ {P:List Str} {vs:List Value} {i:Nat} {m:Str->Option Value},P.Nodup->P[i]? = some x->vs[i]? = some v->kindOf x=some .local->
  bindL kindOf (P.zip vs) m x=some v
 | [],_,_,_,_,h,_,_=>by simp at h
 | _::_,[],_,_,_,_,h,_=>by simp at h
 | p::P,w::vs,0,m,nd,h1,h2,hk=>by
  simp at h1 h2;subst h1;subst h2
  show bindL kindOf ((p,w)::P.zip vs) m p=_
  unfold bindL
  rw [zgj fun v hv=>(List.nodup_cons.mp nd).1 (List.of_mem_zip hv).1,qa4 hk]
  simp
 | p::P,w::vs,i+1,m,nd,h1,h2,hk=>by
  show bindL kindOf ((p,w)::P.zip vs) m x=_
  unfold bindL
  exact zg1 (i:=i) (List.nodup_cons.mp nd).2 (by simpa using h1) (by simpa using h2) hk
theorem zgC {kindOf:Str->Option NameKind} {x:Str} {v:Value}: ∀ {P:List Str} {vs:List Value} {i:Nat} {m:Str->Option Value},P.Nodup->P[i]? = some x->vs[i]? = some v->kindOf x≠some .local->
  bindC kindOf (P.zip vs) m x=some v
 | [],_,_,_,_,h,_,_=>by simp at h
 | _::_,[],_,_,_,_,h,_=>by simp at h
 | p::P,w::vs,0,m,nd,h1,h2,hk=>by
  simp at h1 h2;subst h1;subst h2
  show bindC kindOf ((p,w)::P.zip vs) m p=_
  unfold bindC
  rw [zgP fun v hv=>(List.nodup_cons.mp nd).1 (List.of_mem_zip hv).1,qa5 hk]
  simp
 | p::P,w::vs,i+1,m,nd,h1,h2,hk=>by
  show bindC kindOf ((p,w)::P.zip vs) m x=_
  unfold bindC
  exact zgC (i:=i) (List.nodup_cons.mp nd).2 (by simpa using h1) (by simpa using h2) hk
noncomputable def zdY (N:List Str) (vs:List V):St:=vs.map some++List.replicate (N.length - vs.length) none
noncomputable def zhp (CX:CXT) (P:Program) (w:World) (K:W.Frag) (mg:Str->Option Value) (base:Heap) (N:List Str) (qual:Str) (scope:Scope) (f:Addr) (cd:Value) (A:Around) (outer:List Env) (s:Shared) (H:Hp) (E:XK):Cx where
 prog:=P
 w:=w
 K:=K
 mg:=mg
 base:=base
 A:=A.deeper (envOfC qual scope s.heap.objs.size f cd)
 N:=N
 s₀:=s
 H₀:=H
 env:=envOfC qual scope s.heap.objs.size f cd
 outer:=outer
 stack:=envOfC qual scope s.heap.objs.size f cd::outer
 ex:=[]
 calm:=true
 fn:=fun _=>true
 pn:=[]
 xe:=fun e s'=>wpAny (model P w) (A.deeper (envOfC qual scope s.heap.objs.size f cd)) (leaving (envOfC qual scope s.heap.objs.size f cd) e) (fun _ s''=>CX outer H s E e s'') (fun e' s''=>CX outer H s E e' s'') s'
theorem ziS {sc:Scope} {n:Nat} {x:Str} (h:sc.names.lookup x=some .cell): ∃ c,(cellsFrom n sc.names []).lookup x=some c:=by
 have q:=W.cellsFrom_some sc.names n [] (.inl h)
 exact Option.isSome_iff_exists.mp q
theorem zgz {CX:CXT} {P:Program} {w:World} {K:W.Frag} {mg:Str->Option Value} {base:Heap} {N ps:List Str} {qual:Str} {scope:Scope} {f:Addr} {cd:Value} {A:Around} {outer:List Env} {s s1:Shared} {H:Hp} {E:XK} {us:List Value} {vs:List V}
  (S:zaq N ps scope) {cm:Bool} (hd:cm=true->A.handled=none) (e0:zlR P w K mg base A outer s H) (hl:vs.length=ps.length) (r:za2 vs us)
  (x:InCallC s s.heap.objs.size (bindL (envOfC qual scope s.heap.objs.size f cd).kindOf (ps.zip us) fun _=>none) (cellsFrom (s.heap.objs.size+1) scope.names []) (bindC (envOfC qual scope s.heap.objs.size f cd).kindOf (ps.zip us) fun _=>none) s1):
  Inv {zhp CX P w K mg base N qual scope f cd A outer s H E with calm:=cm} [] (zdY N vs) H s1:=by
 have hpl:ps.length<=N.length:=by have:=congrArg List.length S.pre;rw [List.length_take] at this;omega
 obtain ⟨h1,tk,rfl,hk⟩:=x.done
 have noA: ∀ b:Addr,b∉(zhp CX P w K mg base N qual scope f cd A outer s H E).ex:=fun b z=>absurd (show b∈([]:List Addr) from z) (by simp)
 refine ⟨⟨e0.mod,S.kind,rfl,rfl,qaV _,fun y z c h1 h2=> ?_,fun y hy=> ?_,fun y c _ h=> ?_,hd,e0.hand,Around.frames_deeper e0.frames,.inr ⟨rfl,rfl⟩,fun b z=>absurd z (noA b),e0.bs,e0.bsz,fun b _ _=>noA b,fun b z=>absurd z (noA b),e0.funs,e0.frf⟩,
   rfl,e0.bare,Un.kept hk,⟨_,x.toInCall.ns,fun i y v h1 h2 h3=> ?_⟩,fun y c h=>⟨_,x.cell y c h⟩,e0.hok.fresh (qaV _),fun y c h=> ?_,fun p hp=>absurd (show p∈([]:List (Addr×Obj)) from hp) (by simp),e0.hok.kept hk,?_⟩
 ·exact name_of_addr x.apart (PySem.mem_of_lookup h1) (PySem.mem_of_lookup h2)
 ·have hy:scope.names.lookup y=some .cell\/scope.names.lookup y=some .free:=hy
  rcases hy with hy | hy
  ·exact ziS hy
  ·exact absurd rfl (S.nofree _ (PySem.mem_of_lookup hy))
 ·exact Nat.le_of_lt (x.above y c (PySem.mem_of_lookup h))
 ·have hi:i<vs.length:=by
   unfold zdY at h2
   by_cases hi:i<vs.length
   ·exact hi
   ·rw [qaa (by simpa using hi)] at h2
    rw [List.getElem?_replicate] at h2
    split at h2<;>cases h2
  have ha:vs[i]? = some v:=by
   unfold zdY at h2
   rw [qad (by simpa using hi),List.getElem?_map] at h2
   cases e:vs[i]? with
   | none=>rw [e] at h2;cases h2
   | some a=>rw [e] at h2;cases h2;rfl
  obtain ⟨u,hu,rv⟩:=r.get ha
  have hp:ps[i]? = some y:=by
   rw [<- S.pre,List.getElem?_take_of_lt (by omega)];exact h1
  have ndP:ps.Nodup:=by rw [<- S.pre];exact S.nd.sublist (List.take_sublist _ _)
  refine ⟨u,rv,?_⟩
  rcases S.par y (List.mem_of_getElem? hp) with k | k
  ·exact .inl ⟨k,zg1 ndP hp hu k⟩
  ·obtain ⟨c,e⟩:=ziS (n:=s.heap.objs.size+1) k
   refine .inr ⟨.inl k,c,e,?_⟩
   have q:=x.cell y c e
   rw [zgC ndP hp hu (by show scope.names.lookup y≠_;rw [k];decide)] at q
   exact q
 ·exact e0.hok.fresh (Nat.le_of_lt (x.above y c (PySem.mem_of_lookup h)))
 ·unfold zdY
  show _=N.length
  rw [qav,qaH,List.length_replicate]
  omega
theorem zq3 {CX:CXT} {P:Program} {w:World} {K:W.Frag} {mg:Str->Option Value} {base:Heap} {k:Nat} {f:Addr} {name qual:Str} {params:Arguments} {body:List Stmt} {scope:Scope} {dV kV doc pm cdv ct oc:Value} {an od:Option Addr}
  {osl:Array (Option Value)} {N ps:List Str} {sp:Sp} (lk:K.lookup f=some ⟨oc,od,.func (W.fnOf name qual params body scope dV kV doc pm an cdv ct),osl⟩) (hcd:W.codeIn K cdv qual=true) (S:zaq N ps scope)
  (len: ∀ vs H Q E,sp vs H Q E->vs.length=ps.length)
  (hbody: ∀ (A:Around) (outer:List Env) (s:Shared) (H:Hp) (vs:List V) (Q:VK) (E:XK),zds k (A.deeper (envOfC qual scope s.heap.objs.size f cdv))->sp vs H Q E->
    ∃ t,PSs (zhp CX P w K mg base N qual scope f cdv A outer s H E) body t/\t {nx:=fun _ H'=>Q .non H',rt:=Q} (zdY N vs) H):
  zbw P w K mg base CX (k+1) f (W.fnOf name qual params body scope dV kV doc pm an cdv ct) ps sp:=by
 refine ⟨len,fun A outer s H args us vs Q E hr e0 hb r hsp=> ?_⟩
 have hl:=len _ _ _ _ hsp
 have KX:K.In s.heap:=e0.mod.kin.keeps fun b o e=>(e0.bs b o e).1
 have lim:s.heap.NoLimit:=e0.mod.nolimit.keeps fun b o e=>(e0.bs b o e).1
 have hkind: ∀ y∈ps.zip us,scope.names.lookup y.1=some .local\/(scope.names.lookup y.1=some .cell/\((cellsFrom (s.heap.objs.size+1) scope.names []).lookup y.1).isSome=true):=fun ⟨n,v⟩ hy=>by
  rcases S.par n (List.of_mem_zip hy).1 with q | q
  ·exact .inl q
  ·exact .inr ⟨q,W.cellsFrom_some _ _ _ (.inl q)⟩
 refine codeAny_call_function hr.depth (KX _ _ lk) rfl S.co S.gen rfl (W.codeRec_of KX hcd) (hb _ _ _ _ ?_)
 refine wpAny_newFunctionEnv_cells S.kind hkind fun env he s1 x=> ?_
 subst he
 refine ⟨lim.keeps x.toInCall.keep,codeAny_func ?_⟩
 obtain ⟨t,ht,hq⟩:=hbody A outer s H vs Q E (hr.deeper _) hsp
 have I:Inv (zhp CX P w K mg base N qual scope f cdv A outer s H E) [] (zdY N vs) H s1:=zgz (cm:=true) S (fun _=>hr.hd) e0 hl r x
 refine qaZ (ht [] s1 (zdY N vs) H _ I hq) (fun fl s' hs=> ?_) fun e s' hs=>hs
 have fin: ∀ {σ':St} {H':Hp} {v:V} {u:Value},Inv (zhp CX P w K mg base N qual scope f cdv A outer s H E) [] σ' H' s'->zby v u->Q v H'->CE outer P w H s Q u s':=
  fun {σ' H' v u} J rv q=>⟨v,H',J.os,J.bare,J.base,J.hok,rv,q⟩
 cases fl with
 | ret u=>
  obtain ⟨v,σ',H',J,rv,q⟩:=hs
  exact fin J rv q
 | next=>
  obtain ⟨σ',H',J,q⟩:=hs
  exact fin (v:=V.non) (u:=Value.none) J rfl q
 | brk=>
  obtain ⟨_,_,_,q⟩:=hs
  exact qa0 q
 | cont=>
  obtain ⟨_,_,_,q⟩:=hs
  exact qa0 q
section
variable {X:Cx} {x:Str} {p pos:Pos} {e:Expr} {es:List Expr} {t:TA} {id T:String} {r:List V->Hp->VK->Prop}
noncomputable def tCB (r:List V->Hp->VK->Prop) (t:TA):TE:=fun σ H Q=>t σ H fun vs H1=>r vs H1 Q
theorem zdS (hc:zaM X (.builtin id) r) (hg:Gl X x) (hm:X.mg x=none) (hv:bootBuiltins x=some (.builtin id)) (ha:PA X (e::es) t) (hn:x≠"__name__":=by decide) (hdb:(x==("__debug__":Str))=false:=by decide)
  (he:starEach (e::es) X.env=(false,eval e X.env)::starEach es X.env:=by rfl) (hpl:(backTo pos (starEach es X.env)).any (·.1)=false:=by rfl):PE X (.Call (.Name x p) (e::es) [] pos) (tCB r t):=by
 intro pins s σ H Q I h
 refine wpAny_Call_Name_kw (zfA I hg hm hv ?_ hn hdb)
 exact PyProof.Rows.callWith_builtin1 (thn (ha pos pins s σ H _ I h) fun us s1 ⟨vs,H1,I1,r1,q1⟩=>hc pins s1 σ H1 vs us Q I1 r1 q1) he hpl
theorem zha (hc:zaM X (.type T) r) (hg:Gl X x) (hm:X.mg x=none) (hv:bootBuiltins x=some (.type T)) (ha:PA X (e::es) t) (hn:x≠"__name__":=by decide) (hdb:(x==("__debug__":Str))=false:=by decide)
  (he:starEach (e::es) X.env=(false,eval e X.env)::starEach es X.env:=by rfl) (hpl:(backTo pos (starEach es X.env)).any (·.1)=false:=by rfl):PE X (.Call (.Name x p) (e::es) [] pos) (tCB r t):=by
 intro pins s σ H Q I h
 refine wpAny_Call_Name_kw (zfA I hg hm hv ?_ hn hdb)
 exact PyProof.Rows.callWith_type1 (thn (ha pos pins s σ H _ I h) fun us s1 ⟨vs,H1,I1,r1,q1⟩=>hc pins s1 σ H1 vs us Q I1 r1 q1) he hpl
end
end L2
namespace HT
open PySem PyProof.Rows
section
open PySem.SeqAt
open PySem.AutoSeq1 (wpAny_loadPart')
open PySem.MeetsSeq PySem.MeetsSeq2 PySem.MeetsSeq3
end
section
variable {prog:Program} {w:World} {A:Around} {E:Value->Shared->Prop} {s:Shared}
theorem zoJ {t b:Addr} {vs ws:List Value} {Q:Value->Shared->Prop} (ht:IsTup s.heap t vs.toArray) (hb:IsTup s.heap b ws.toArray) (hv:vs≠[])
  (h1:ws=[]->Q (.ref t) s) (h2:ws≠[]->Q (.ref s.heap.objs.size) {s with heap:=s.heap.push {cls:= .type "tuple",data:= .seq (vs++ws).toArray}})
  (hsz:vs.length+ws.length<=sizeLine):wpAny (model prog w) A (binaryOp .Add (.ref t) (.ref b)) Q E s:=by
 obtain ⟨⟨cls,dd,data,sl⟩,ho,hc,n,hd⟩:=id ht
 obtain ⟨⟨cls2,dd2,data2,sl2⟩,ho2,hc2,n2,hd2⟩:=id hb
 simp only at hc hd hc2 hd2
 subst hc hd hc2 hd2
 have e:vs.toArray++ws.toArray=(vs++ws).toArray:=by simp
 by_cases hw:ws=[]
 ·exact concat_meets ⟨_,ho,rfl⟩ ⟨_,ho2,rfl⟩ noFill_tuple_add seq_tuple_add PySem.F.slot_tuple_add PySem.F.entry_tuple_add (PySem.F.args_tuple_add_2 _ _)
   (tuple_addW1 t b vs.toArray ws.toArray n n2 dd dd2 sl sl2 (by simpa using hv) (by simp [hw])) ⟨ho,ho2,h1 hw⟩
 ·refine concat_meets ⟨_,ho,rfl⟩ ⟨_,ho2,rfl⟩ noFill_tuple_add seq_tuple_add PySem.F.slot_tuple_add PySem.F.entry_tuple_add (PySem.F.args_tuple_add_2 _ _)
   (tuple_addW2 t b vs.toArray ws.toArray n n2 dd dd2 sl sl2 (by simpa using hv) (by simpa using hw) (by rw [qaA,qaA];exact hsz)) ⟨ho,ho2,?_⟩
  rw [e]
  exact h2 hw
noncomputable def sIx (n d:Nat):Option Int->Nat
 | none=>d
 | some v=>if v<0 then (v+(n:Int)).toNat else min v.toNat n
end
end HT
namespace L2
open PySem PySem.Spec PyProof.Rows
noncomputable abbrev TO:=St->Hp->(Option Int->Hp->Prop)->Prop
def PO (X:Cx) (e:Option Expr) (t:TO):Prop:=
 ∀ (pins:List (Addr×Obj)) (s:Shared) (σ:St) (H:Hp) (Q:Option Int->Hp->Prop),Inv X pins σ H s->t σ H Q->
  wpAny (model X.prog X.w) X.A (evalPart e X.env) (fun u s'=> ∃ o H',Inv X pins σ H' s'/\IsPart u o/\Q o H') X.xe s
theorem zbU {ns:List Int}: ∀ {us:List Value},za2 (ns.map V.int) us->IntsAre us ns:=by
 induction ns with
 | nil=>intro us r;rw [List.map_nil] at r;cases r;exact .nil
 | cons n ns ih=>
  intro us r
  rw [qaM] at r
  cases r with
  | cons r1 r2=>
   obtain ⟨t,e⟩:=r1
   subst e
   exact .cons n t (ih r2)
section
variable {X:Cx} {e:Expr} {te:TE} {lo hi:Option Expr} {tl th:TO} {pos p2:Pos}
def SlR (X:Cx) (r:V->Option Int->Option Int->Hp->VK->Prop):Prop:=
 ∀ (pins:List (Addr×Obj)) (s:Shared) (σ:St) (H:Hp) (x:V) (v vl vu:Value) (lo hi:Option Int) (sl:Addr) (Q:VK),Inv X pins σ H s->zby x v->s.heap.IsSliceOf sl vl vu .none->IsPart vl lo->IsPart vu hi->r x lo hi H Q->
  ∃ T id,typeLookup (.type T) "__getitem__"=pure (some (.builtin id))/\s.TypeIs v T/\wpAny (model X.prog X.w) X.A (getItem v (.ref sl)) (EP X pins σ Q) X.xe s
theorem SlR.or {r r':V->Option Int->Option Int->Hp->VK->Prop} (h:SlR X r) (h':SlR X r'):SlR X (fun x lo hi H Q=>r x lo hi H Q\/r' x lo hi H Q):=by
 intro pins s σ H x v vl vu lo hi sl Q I rx hs pl pu q
 rcases q with q | q
 ·exact h pins s σ H x v vl vu lo hi sl Q I rx hs pl pu q
 ·exact h' pins s σ H x v vl vu lo hi sl Q I rx hs pl pu q
noncomputable def zsY (K:W.Frag):R2:=fun x y H Q=> ∃ a b xs ys,x= .ref a/\y= .ref b/\SqT K H a xs/\SqT K H b ys/\xs≠[]/\xs.length+ys.length<=sizeLine/\
 (ys=[]->Q (.ref a) H)/\(ys≠[]-> ∀ p,H p=none->Q (.ref p) (upd H p (.tup (xs++ys))))
theorem za2.nil_iff {xs:List V} {us:List Value} (r:za2 xs us):us=[]↔xs=[]:=by
 cases r with
 | nil=>simp
 | cons _ _=>simp
theorem zn0:OpR X (binaryOp .Add) (zsY X.K):=by
 intro pins s σ H x y v u Q I rx ry h
 obtain ⟨a,b,xs,ys,rfl,rfl,ha,hb,hx,hz,q1,q2⟩:=h
 cases rx
 cases ry
 obtain ⟨its,r1,p1,_⟩:=I.tuple ha
 obtain ⟨its2,r2,p2,_⟩:=I.tuple hb
 refine HT.zoJ p1 p2 (fun z=>hx (r1.nil_iff.mp z)) (fun z=>⟨.ref a,H,I,rfl,q1 (r2.nil_iff.mp z)⟩) (fun z=> ?_) (by rw [<- r1.length, <-r2.length];exact hz)
 refine ⟨.ref s.heap.objs.size,_,I.laid (t':=s.toks) (o:= .tup (xs++ys)) (fun b ob q=>qag _ q) (qaV _) ?_,rfl,q2 (fun w=>z (r2.nil_iff.mpr w)) _ (I.hok.fresh (qaV _))⟩
 exact ⟨by rw [qav];exact hz,_,r1.append r2,IsTup.new _ _⟩
end
noncomputable def ixN (n:Nat) (i:Int):Option Nat:=if 0<=i then (if i<n then some i.toNat else none) else if -(n:Int)<=i then some (i+n).toNat else none
noncomputable def atI {α:Type} (xs:List α) (i:Int):Option α:=(ixN xs.length i).bind fun j=>xs[j]?
theorem zkp {n:Nat} {i:Int} {j:Nat} (h:ixN n i=some j):seqIndex? i n=some j/\j<n/\ -(n:Int)<=i/\i<n:=by
 unfold ixN at h
 by_cases h0:0<=i
 ·rw [qa4 h0] at h
  by_cases h1:i<n
  ·rw [qa4 h1] at h
   have e:i.toNat=j:=Option.some.inj h
   exact ⟨by rw [seqIndex_of h0 h1,e],by omega,by omega,h1⟩
  ·rw [qa5 h1] at h;cases h
 ·rw [qa5 h0] at h
  by_cases h1: -(n:Int)<=i
  ·rw [qa4 h1] at h
   have e:(i+n).toNat=j:=Option.some.inj h
   exact ⟨by rw [seqIndex_neg (by omega) h1,e],by omega,h1,by omega⟩
  ·rw [qa5 h1] at h;cases h
theorem zjA {α:Type} {xs:List α} {i:Int} {v:α} (h:atI xs i=some v): ∃ j,seqIndex? i xs.length=some j/\xs[j]? = some v/\j<xs.length/\ -(xs.length:Int)<=i/\i<xs.length:=by
 unfold atI at h
 cases e:ixN xs.length i with
 | none=>rw [e] at h;cases h
 | some j=>
  rw [e] at h
  obtain ⟨h1,h2,h3,h4⟩:=zkp e
  exact ⟨j,h1,h,h2,h3,h4⟩
theorem zfC {α:Type} {xs:List α} {j:Nat} {v:α} (h:xs[j]? = some v):atI xs (j:Int)=some v:=by
 have hj:j<xs.length:=(qac.mp h).1
 have e:ixN xs.length (j:Int)=some j:=by
  unfold ixN
  rw [qa4 (by omega),qa4 (by omega)];simp
 unfold atI;rw [e];exact h
def zeN (b:Expr):Prop:= ∀ o i,subscripted b false o i=operate [o,i] (getItem o i)
def IxR (X:Cx) (r:R2):Prop:=
 ∀ (value slice:Expr) (pins:List (Addr×Obj)) (s:Shared) (σ:St) (H:Hp) (x y:V) (v u:Value) (Q:VK),Inv X pins σ H s->zby x v->zby y u->r x y H Q->
  subscripted slice false v u=operate [v,u] (getItem v u)->wpAny (model X.prog X.w) X.A (subscriptTail value slice v u) (EP X pins σ Q) X.xe s
def MtR (X:Cx) (id:String) (r:V->List V->Hp->VK->Prop):Prop:=
 ∀ (pins:List (Addr×Obj)) (s:Shared) (σ:St) (H:Hp) (x:V) (xs:List V) (v:Value) (us:List Value) (Q:VK),Inv X pins σ H s->zby x v->za2 xs us->r x xs H Q->
  wpAny (model X.prog X.w) X.A (call (.builtin id) (v::us)) (EP X pins σ Q) X.xe s
section
variable {X:Cx} {a b:Expr} {ta tb:TE} {pos:Pos}
theorem IxR.or {r r':R2} (h:IxR X r) (h':IxR X r'):IxR X (fun x y H Q=>r x y H Q\/r' x y H Q):=by
 intro value slice pins s σ H x y v u Q I rx ry q hs
 rcases q with q | q
 ·exact h value slice pins s σ H x y v u Q I rx ry q hs
 ·exact h' value slice pins s σ H x y v u Q I rx ry q hs
theorem MtR.or {id:String} {r r':V->List V->Hp->VK->Prop} (h:MtR X id r) (h':MtR X id r'):MtR X id (fun x xs H Q=>r x xs H Q\/r' x xs H Q):=by
 intro pins s σ H x xs v us Q I rx rs q
 rcases q with q | q
 ·exact h pins s σ H x xs v us Q I rx rs q
 ·exact h' pins s σ H x xs v us Q I rx rs q
theorem zqc {r:R2} (hr:IxR X r) (ha:PE X a ta) (hb:PE X b tb) (hs:zeN b):PE X (.Subscript a b pos) (tOp r ta tb):=by
 intro pins s σ H Q I h
 exact Subscript_ (zsi ha hb I h fun v u s2 x y H2 I2 rx ry q=>hr a b pins s2 σ H2 x y v u Q I2 rx ry q (hs _ _))
noncomputable def zty (K:W.Frag):R2:=fun x y H Q=> ∃ p xs i v,x= .ref p/\y= .int i/\SqL K H p xs/\atI xs i=some v/\Q v H
noncomputable def ztu (K:W.Frag):R2:=fun x y H Q=> ∃ p xs i v,x= .ref p/\y= .int i/\SqT K H p xs/\atI xs i=some v/\Q v H
theorem zjU:IxR X (zty X.K):=by
 intro value slice pins s σ H x y v u Q I rx ry h hs
 obtain ⟨p,xs,i,z,rfl,rfl,hq,he,q⟩:=h
 cases rx
 obtain ⟨t,rfl⟩:=ry
 obtain ⟨its,r,pl,hz⟩:=I.list hq
 obtain ⟨j,h1,h2,h3,h4,h5⟩:=zjA he
 obtain ⟨w,ew,rw'⟩:=r.get h2
 have hl:=r.length
 have hn:=zh9
 have fin:EP X pins σ Q w s:=⟨z,H,I,rw',q⟩
 by_cases h0:0<=i
 ·have hj:i.toNat=j:=by
   rw [seqIndex_of h0 h5] at h1
   exact Option.some.inj h1
  exact item_listR pl.isList h0 (by omega) (by rw [hj];simpa using ew) fin hs
 ·have hj:(i+(its.toArray.size:Int)).toNat=j:=by
   rw [seqIndex_neg (by omega) h4] at h1
   rw [qaA, <-hl]
   exact Option.some.inj h1
  exact subscriptTail_builtinR (x:=w) pl.isList.typeIs slot_list_getitem.lookup
   (wpAny_getItem_list_neg (Q:=fun r s'=>r=w/\EP X pins σ Q r s') pl.isList (by omega) (by rw [qaA]<;>omega) (by omega) (by rw [hj];simpa using ew) ⟨rfl,fin⟩) hs
theorem zrb:IxR X (ztu X.K):=by
 intro value slice pins s σ H x y v u Q I rx ry h hs
 obtain ⟨p,xs,i,z,rfl,rfl,hq,he,q⟩:=h
 cases rx
 obtain ⟨t,rfl⟩:=ry
 obtain ⟨its,r,pl,hz⟩:=I.tuple hq
 obtain ⟨j,h1,h2,h3,h4,h5⟩:=zjA he
 obtain ⟨w,ew,rw'⟩:=r.get h2
 have hl:=r.length
 have hn:=zh9
 have fin:EP X pins σ Q w s:=⟨z,H,I,rw',q⟩
 exact subscriptTail_builtinR (x:=w) pl.typeIs slot_tuple_getitem.lookup
  (getItem_tuple (j:=j) (Q:=fun r s'=>r=w/\EP X pins σ Q r s') pl (by omega) (by omega) (by rw [qaA, <-hl];exact h1) (by simpa using ew) ⟨rfl,fin⟩) hs
theorem zi8 (its:List Value) (n j:Nat) (u:Value):Obj.mapSeq (·.setIfInBounds j u) {cls:= .type "list",data:= .seq its.toArray n}={cls:= .type "list",data:= .seq (its.set j u).toArray n}:=by
 simp [Obj.mapSeq]
theorem Inv.lst {pins:List (Addr×Obj)} {σ:St} {H:Hp} {s:Shared} {p:Addr} {xs:List V} (I:Inv X pins σ H s) (h:H p=some (.lst xs)):
  ∃ (its:List Value) (n:Nat),za2 xs its/\s.heap.get? p=some {cls:= .type "list",data:= .seq its.toArray n}/\xs.length<=sizeLine:=by
 obtain ⟨z,its,n,r,e⟩:=I.hok p _ h
 exact ⟨its,n,r,e,z⟩
theorem Inv.lstUpd {pins:List (Addr×Obj)} {σ:St} {H:Hp} {s:Shared} {p:Addr} {xs ys:List V} {its its':List Value} {n n':Nat} {f:Obj->Obj} (I:Inv X pins σ H s) (h:H p=some (.lst xs))
  (ho:s.heap.get? p=some {cls:= .type "list",data:= .seq its.toArray n}) (hf:f {cls:= .type "list",data:= .seq its.toArray n}={cls:= .type "list",data:= .seq its'.toArray n'}) (r:za2 ys its') (hz:ys.length<=sizeLine) (t:Nat):
  Inv X pins σ (upd H p (.lst ys)) {s with heap:=s.heap.update p f,toks:=t}:=by
 have e:(s.heap.update p f).get? p=some {cls:= .type "list",data:= .seq its'.toArray n'}:=by
  rw [qal f ho (by rw [hf]<;>rfl),hf]
 refine I.write (x:=p) (e:=p) (by rw [h];trivial) (.inl rfl) (fun b u hb q=>(qah _ _ (Ne.symm hb)).trans q) ⟨_,e⟩ ?_
 exact ⟨hz,its',n',r,e⟩
noncomputable def zrV:V->V->V->Hp->(Hp->Prop)->Prop:=fun o i v H Q=> ∃ p xs k j,o= .ref p/\i= .int k/\H p=some (.lst xs)/\ixN xs.length k=some j/\Q (upd H p (.lst (xs.set j v)))
theorem zmt:zoU X zrV:=by
 intro pins s σ H o i v ov iv u Q I ro ri rv h
 obtain ⟨p,xs,k,j,rfl,rfl,hp,hj,q⟩:=h
 cases ro
 obtain ⟨t,rfl⟩:=ri
 obtain ⟨its,n,r,ho,hz⟩:=I.lst hp
 obtain ⟨h1,h2,h3,h4⟩:=zkp hj
 have hl:=r.length
 have hn:=zh9
 have I':Inv X pins σ (upd H p (.lst (xs.set j v))) {s with heap:=s.heap.update p (Obj.mapSeq (·.setIfInBounds j u))}:=
  I.lstUpd hp ho (zi8 its n j u) (r.set rv j) (by rw [qaI];exact hz) s.toks
 by_cases h0:0<=k
 ·have hk:k.toNat=j:=by
   rw [seqIndex_of h0 h4] at h1
   exact Option.some.inj h1
  exact W.ki_setAt ho h0 (by omega) (by rw [qaA, <-hl];exact h4) (by rw [hk];exact ⟨_,I',q⟩)
 ·have hk:(k+(its.toArray.size:Int)).toNat=j:=by
   rw [seqIndex_neg (by omega) h3] at h1
   rw [qaA, <-hl]
   exact Option.some.inj h1
  exact W.ki_setBack ho (by omega) (by rw [qaA, <-hl];exact h3) (by omega) (by rw [hk];exact ⟨_,I',q⟩)
theorem zhh:zaM X (.builtin "len") (fun xs H Q=> ∃ p ys,xs=[.ref p]/\(SqL X.K H p ys\/SqT X.K H p ys)/\Q (.int ys.length) H):=by
 intro pins s σ H xs us Q I r h
 obtain ⟨p,ys,rfl,hq,q⟩:=h
 obtain ⟨u,rfl,rx⟩:=zd5 r
 cases rx
 have hn:=zh9
 rcases hq with hq | hq
 ·obtain ⟨its,r',pl,hz⟩:=I.list hq
  have hlen:=r'.length
  exact Calls.call_len_list pl.isList (by simp only [qaA]<;>omega) ⟨.int ys.length,H,I.tok _,⟨s.toks+1,by rw [qaA,hlen]⟩,q⟩
 ·obtain ⟨its,r',pl,hz⟩:=I.tuple hq
  have hlen:=r'.length
  exact len_tuple pl (by simp only [qaA]<;>omega) ⟨.int ys.length,H,I.tok _,⟨s.toks+1,by rw [qaA,hlen]⟩,q⟩
theorem zaM.or {f:Value} {r r':List V->Hp->VK->Prop} (h:zaM X f r) (h':zaM X f r'):zaM X f (fun xs H Q=>r xs H Q\/r' xs H Q):=by
 intro pins s σ H xs us Q I rs q
 rcases q with q | q
 ·exact h pins s σ H xs us Q I rs q
 ·exact h' pins s σ H xs us Q I rs q
theorem zf5:zaM X (.type "tuple") (fun xs H Q=> ∃ p ys,xs=[.ref p]/\((SqL X.K H p ys/\ ∀ l,H l=none->Q (.ref l) (upd H l (.tup ys)))\/(SqT X.K H p ys/\Q (.ref p) H))):=by
 intro pins s σ H xs us Q I r h
 obtain ⟨p,ys,rfl,h⟩:=h
 obtain ⟨u,rfl,rx⟩:=zd5 r
 cases rx
 rcases h with ⟨hq,q⟩ | ⟨hq,q⟩
 ·obtain ⟨its,r',pl,hz⟩:=I.list hq
  have hlen:=r'.length
  refine call_tuple_list pl.isList (fun h' kp=> ?_) (by simp only [qaA]<;>omega)
  have I1:Inv X pins σ H {s with heap:=h'}:=I.kept (t':=s.toks) kp
  have I2:Inv X pins σ (upd H h'.objs.size (.tup ys)) {s with heap:=h'.push {cls:= .type "tuple",data:= .seq its.toArray}}:=
   I1.laid (t':=s.toks) (fun b o e=>qag _ e) (qaV _) (show zbM X.prog X.w _ _ _ (.tup ys) from ⟨hz,its,r',IsTup.new _ _⟩)
  exact ⟨.ref h'.objs.size,_,I2,rfl,q _ (I1.hok.fresh (qaV _))⟩
 ·obtain ⟨its,r',pl,hz⟩:=I.tuple hq
  exact call_tuple_same pl ⟨.ref p,H,I,rfl,q⟩
def tyV (K:W.Frag) (T:String) (x:V) (H:Hp):Prop:=match x with
 | .str _=>T="str"
 | .int _=>T="int"
 | .ref p=>(T="list"/\ ∃ xs,SqL K H p xs)\/(T="tuple"/\ ∃ o,K.lookup p=some o/\o.cls= .type "tuple"/\o.dict=none)\/
   (T="dict"/\((∃ kvs,H p=some (.dK kvs))\/ ∃ kvs,H p=some (.dT kvs)))\/(T="set"/\ ∃ S n,H p=some (.set S n))
 | _=>False
theorem zrp {pins:List (Addr×Obj)} {σ:St} {H:Hp} {s:Shared} {T:String} {x:V} {v:Value} (I:Inv X pins σ H s) (r:zby x v) (ty:tyV X.K T x H):
  s.TypeIs v T/\ ∀ a,v= .ref a-> ∃ ob,s.heap.get? a=some ob/\ob.dict=none:=by
 cases x with
 | str z=>
  obtain ⟨t,rfl⟩:=r
  cases (show T="str" from ty)
  exact ⟨typeIs_str s z t,fun _ e=>nomatch e⟩
 | int i=>
  obtain ⟨t,rfl⟩:=r
  cases (show T="int" from ty)
  exact ⟨typeIs_int s i t,fun _ e=>nomatch e⟩
 | ref p=>
  cases r
  rcases ty with ⟨rfl,xs,hq⟩ | ⟨rfl,o,hk,hc,hd⟩ | ⟨rfl,hk⟩ | ⟨rfl,S,n,hk⟩
  ·obtain ⟨its,_,pl,_⟩:=I.list hq
   refine ⟨pl.isList.typeIs,fun a e=> ?_⟩
   cases e
   obtain ⟨o,n,e,c,hd,_⟩:=pl
   exact ⟨o,e,hd⟩
  ·refine ⟨⟨o,I.kIn p o hk,hc⟩,fun a e=> ?_⟩
   cases e
   exact ⟨o,I.kIn _ o hk,hd⟩
  ·have z: ∃ o,s.heap.get? p=some o/\o.ExactDict:=by
    rcases hk with ⟨kvs,hk⟩ | ⟨kvs,hk⟩
    ·obtain ⟨_,_,_,_,o,_,_,e,ex,_⟩:=I.hok p _ hk
     exact ⟨o,e,ex⟩
    ·obtain ⟨_,_,_,_,o,_,_,e,ex,_⟩:=I.hok p _ hk
     exact ⟨o,e,ex⟩
   obtain ⟨o,e,ex⟩:=z
   refine ⟨⟨o,e,ex.1⟩,fun a e2=> ?_⟩
   cases e2
   exact ⟨o,e,ex.2.1⟩
  ·obtain ⟨o,_,_,_,e,ex,_⟩:=I.hok p _ hk
   refine ⟨⟨o,e,ex.1⟩,fun a e2=> ?_⟩
   cases e2
   exact ⟨o,e,ex.2.1⟩
 | _=>exact qa0 ty
noncomputable def tBM (K:W.Frag) (T:String) (r:V->List V->Hp->VK->Prop) (to:TE) (t:TA):TE:=fun σ H Q=>to σ H fun x H1=>tyV K T x H1/\t σ H1 fun xs H2=>r x xs H2 Q
variable {o e:Expr} {es:List Expr} {to:TE} {t:TA} {name:Str} {apos cpos:Pos} {T id:String} {r:V->List V->Hp->VK->Prop}
theorem zn6 (pa:PlainAttrs T) (slot:Slot T name id) (hty:typeOf (.builtin id)=pure (.type "method_descriptor")) (hm:MtR X id r) (ho:PE X o to) (ha:PA X (e::es) t)
  (hbase:attributeBase o name X.env (eval o X.env)=eval o X.env:=by rfl)
  (hfew:((backTo cpos (starEach (e::es) X.env)).all (fun x=> !x.1) && (backToKw cpos (keywordEach [] X.env)).all (fun x=>x.1.isSome)
    && decide ((e::es).length+([]:List Keyword).length+(if ([]:List Keyword).isEmpty then 0 else 1)<30))=true:=by rfl)
  (hline:(apos.endLine==cpos.line)=true:=by rfl) (hs:starEach (e::es) X.env=(false,eval e X.env)::starEach es X.env:=by rfl) (hplain:(backTo cpos (starEach es X.env)).any (·.1)=false:=by rfl):
  PE X (.Call (.Attribute o name apos) (e::es) [] cpos) (tBM X.K T r to t):=by
 intro pins s σ H Q I h
 refine wpAny_Call_method_late hbase hfew hline rfl (thn (ho pins s σ H _ I h) fun v s1 ⟨x,H1,I1,r1,ty,q1⟩=> ?_)
 obtain ⟨h1,h2⟩:=zrp I1 r1 ty
 refine ⟨T,id,pa,slot,hty,h1,h2,?_⟩
 have hA:=ha cpos pins s1 σ H1 _ I1 q1
 rw [hs] at hA ⊢
 refine Calls.callWith_builtin (by show (false || (backTo cpos (starEach es X.env)).any (·.1))=false;rw [hplain]<;>rfl) (Calls.evalArgs_plain ?_)
 exact thn hA fun us s2 ⟨vs,H2,I2,r2,q2⟩=>hm pins s2 σ H2 x vs v us Q I2 r1 r2 q2
end
def MtM (X:Cx) (id:String) (r:V->List V->Hp->VK->Prop):Prop:=
 ∀ (pins:List (Addr×Obj)) (s:Shared) (σ:St) (H:Hp) (x:V) (xs:List V) (v:Value) (us:List Value) (Q:VK),Inv X pins σ H s->zby x v->za2 xs us->r x xs H Q->
  wpAny (model X.prog X.w) X.A (call (.builtin id) (v::us)) (EP X pins σ Q) X.xe s
theorem za2.one: ∀ {x:V} {us:List Value},za2 [x] us-> ∃ u,us=[u]/\zby x u
 | _,_,.cons r .nil=>⟨_,rfl,r⟩
theorem za2.zero: ∀ {us:List Value},za2 [] us->us=[]
 | _,.nil=>rfl
theorem za2.eraseIdx: ∀ {xs:List V} {us:List Value} (i:Nat),za2 xs us->za2 (xs.eraseIdx i) (us.eraseIdx i)
 | _,_,_,.nil=> .nil
 | _,_,0,.cons _ t=>t
 | _,_,i+1,.cons r t=> .cons r (za2.eraseIdx i t)
theorem za2.reverse {xs:List V} {us:List Value} (h:za2 xs us):za2 xs.reverse us.reverse:=by
 induction h with
 | nil=>exact .nil
 | cons r t ih=>rw [List.reverse_cons,List.reverse_cons];exact za2.append ih (.cons r .nil)
theorem za2.rep {xs:List V} {us:List Value} (h:za2 xs us): ∀ k:Nat,za2 (List.replicate k xs).flatten (List.replicate k us).flatten
 | 0=> .nil
 | k+1=>by
  rw [List.replicate_succ,List.replicate_succ,List.flatten_cons,List.flatten_cons]
  exact za2.append h (za2.rep h k)
theorem zg5 (its:List Value): ∀ (k:Nat) (acc:List Value),
  List.foldl (fun x1 x2=>x1++x2) acc.toArray (List.replicate k its.toArray)=(acc++(List.replicate k its).flatten).toArray
 | 0,acc=>by simp
 | k+1,acc=>by
  have e:acc.toArray++its.toArray=(acc++its).toArray:=by simp
  have e2:(acc++its)++(List.replicate k its).flatten=acc++(List.replicate (k+1) its).flatten:=by
   rw [List.replicate_succ,List.flatten_cons,List.append_assoc]
  rw [<- e2, <-zg5 its k (acc++its), <-e,List.replicate_succ,List.foldl_cons]
section
variable {X:Cx} {pins:List (Addr×Obj)} {σ:St} {H:Hp} {s:Shared} {l b:Addr} {xs ys zs:List V}
theorem Inv.lset {its its':List Value} {n:Nat} {f:Array Value->Array Value} {t':Nat} (I:Inv X pins σ H s) (hH:H l=some (.lst xs))
  (e:s.heap.get? l=some {cls:= .type "list",data:= .seq its.toArray n}) (hf:f its.toArray=its'.toArray) (hv:za2 ys its') (hz:ys.length<=sizeLine):
  Inv X pins σ (upd H l (.lst ys)) {s with heap:=s.heap.update l (Obj.mapSeq f),toks:=t'}:=by
 have q:=PySem.IsL.update e f
 rw [hf] at q
 refine I.write (x:=l) (e:=l) (by rw [hH];exact trivial) (.inl rfl) (fun b' u hb hu=>(qah s.heap (Obj.mapSeq f) (Ne.symm hb)).trans hu) ⟨_,q⟩ ?_
 exact ⟨hz,its',_,hv,q⟩
theorem Inv.lnew {its:List Value} {t':Nat} (I:Inv X pins σ H s) (hv:za2 ys its) (hz:ys.length<=sizeLine):
  Inv X pins σ (upd H s.heap.objs.size (.lst ys)) {s with heap:=s.heap.push {cls:= .type "list",data:= .seq its.toArray},toks:=t'}:=
 I.laid (fun _ _ q=>qag _ q) (qaV _) ⟨hz,its,0,hv,qar _ rfl⟩
theorem Inv.fresh (I:Inv X pins σ H s):H s.heap.objs.size=none:=I.hok.fresh (qaV _)
theorem Inv.lstM (I:Inv X pins σ H s) (hH:H l=some (.lst xs)):xs.length<=sizeLine/\ ∃ (its:List Value) (n:Nat),za2 xs its/\xs.length=its.length/\s.heap.get? l=some {cls:= .type "list",data:= .seq its.toArray n}:=by
 obtain ⟨z,its,n,r,e⟩:=I.hok l _ hH
 exact ⟨z,its,n,r,r.length,e⟩
theorem zmg {n:Nat} (h:n<=sizeLine):Builtin.List.listTooLong n=false:=by
 unfold Builtin.List.listTooLong
 exact decide_eq_false (by omega)
end
section
variable {X:Cx}
noncomputable def zoy:V->List V->Hp->VK->Prop:=fun x vs H Q=> ∃ l xs y,x= .ref l/\vs=[y]/\H l=some (.lst xs)/\xs.length<sizeLine/\Q .non (upd H l (.lst (xs++[y])))
theorem zgt:MtM X "list.append" zoy:=by
 intro pins s σ H x vs v us Q I rx rv h
 obtain ⟨l,xs,y,rfl,rfl,hH,hz,q⟩:=h
 cases rx
 obtain ⟨u,rfl,ru⟩:=rv.one
 obtain ⟨z,its,n,r,hl,e⟩:=I.lstM hH
 refine call_meets F.slot_list_append ⟨_,e,rfl⟩ F.entry_list_append (F.args_list_append_2 _ _) (PySem.list_append l its.toArray n u (by rw [qaA];omega)) ⟨e,?_⟩
 refine ⟨.non,_,I.lset (its':=its++[u]) hH e (by simp) (r.append (.cons ru .nil)) ?_,rfl,q⟩
 rw [qav,List.length_singleton]
 omega
noncomputable def ztp:R2:=fun x y H Q=> ∃ l b xs zs,x= .ref l/\y= .ref b/\H l=some (.lst xs)/\H b=some (.lst zs)/\xs.length+zs.length<=sizeLine/\ ∀ p,H p=none->Q (.ref p) (upd H p (.lst (xs++zs)))
theorem zp0:OpR X (binaryOp .Add) ztp:=by
 intro pins s σ H x y v u Q I rx ry h
 obtain ⟨l,b,xs,zs,rfl,rfl,hH,hB,hz,q⟩:=h
 cases rx
 cases ry
 obtain ⟨z,its,n,r,hl,e⟩:=I.lstM hH
 obtain ⟨z2,its2,n2,r2,hl2,e2⟩:=I.lstM hB
 refine PySem.P.add_list e e2 ?_ (by rw [qaA,qaA];omega)
 have ea:its.toArray++its2.toArray=(its++its2).toArray:=by simp
 rw [ea]
 exact ⟨.ref _,_,I.lnew (t':=s.toks) (r.append r2) (by rw [qav];omega),rfl,q _ I.fresh⟩
theorem zoY {α:Type} (xs:List α) (k:Nat):(List.replicate k xs).flatten.length=k*xs.length:=by
 induction k with
 | zero=>simp
 | succ k ih=>rw [List.replicate_succ,List.flatten_cons,qav,ih,Nat.succ_mul,Nat.add_comm]
end
section
variable {prog:Program} {w:World} {A:Around} {E:Value->Shared->Prop} {s:Shared}
end
section
variable {X:Cx}
end
end L2
namespace Att
open PySem PySem.W PySem.Calls PyProof.Rows
theorem ze9 {P:Params} {h:Heap}: ∀ (ns:List Int) (vs:List Value),WellAll P h vs (ns.map WData.int)->IntsAre vs ns:=by
 intro ns
 induction ns with
 | nil=>
  intro vs w
  rw [List.map_nil] at w
  cases w
  exact .nil
 | cons n ns ih=>
  intro vs w
  rw [qaM] at w
  cases w with
  | cons a b=>
   cases a
   exact .cons _ _ (ih _ b)
theorem zjB {l:OpenLaw} {n:Nat} (hn:l.most=some n) {P:Params} {h:Heap} {args:List WData} {vals:List Value}
  (hpre:l.row.toRowW.claim.pre args=true) (hwl:WellAll P h vals args):
  ∃ a vs ns,vals=[Value.ref a]/\args=[WData.list (ns.map WData.int)]/\h.get? a=some {cls:= .type "list",data:= .seq vs.toArray}/\IntsAre vs ns/\ns.length<=n:=by
 have hsh:WShape.hasAll [] args [.list .int]=true:=(pre_splitW hpre).1
 have hc:l.pre.holds [] {args:=args}=true:=(pre_splitW hpre).2
 obtain ⟨d,r,rfl,h1,h2⟩:=hasAllW_cons hsh
 obtain rfl:=hasAllW_nil h2
 obtain ⟨xs,rfl,h3⟩:=hasW_list h1
 obtain ⟨ns,rfl⟩:=items_int h3
 have hlen:ns.length<=n:=by
  unfold OpenLaw.pre at hc
  have h4:(WTm.not (.lt (.lit (.int (n:Int))) (.len (.arg 0)))).holds [] {args:=[.list (ns.map .int)]}=true:=by
   have h4:=(holds_andW hc).1
   rw [hn] at h4
   exact h4
  have h5:=condW_of h4 (w_not (w_lt w_lit (w_len_list (w_arg rfl))))
  rw [qaH] at h5
  refine Nat.le_of_not_lt fun q=> ?_
  have q':(n:Int)<((ns.length:Nat):Int):=by omega
  first
   | (rw [decide_eq_true q'] at h5;exact absurd h5 (by decide))
   | (simp at h5;omega)
 cases hwl with
 | cons w1 w2=>
  cases w2
  cases w1 with
  | list ho hall=>exact ⟨_,_,ns,rfl,rfl,ho,ze9 ns _ hall,hlen⟩
theorem zjK (l:OpenLaw) (args:List WData):l.row.toRowW.claim.post args (.bool true) args=true:=
 postW_of (r:=l.row.toRowW) (X:=(true==true))
  (show WShape.has [] (.bool true) .bool=true by first | rfl | decide | simp [WShape.has,WShape.arms,WShape.armsAll])
  (show (WTm.eq .res (.lit (.bool true))).value [] {args:=args,res:=some (.bool true),after:=args}=some (.bool (true==true)) from w_eq_bool (w_res rfl) w_lit) rfl
theorem zhU {l:OpenLaw} {n:Nat} {q:Program} {loose:List Str} {XP:(Str->Option Value)->Heap->Prop} {YP:World->Heap->Prop} {d:DefRec}
  (hn:l.most=some n) (hdf:d.params.defaults=[])
  (call: ∀ (w:World) (s₀ s₁:Shared) (mg mb:Str->Option Value) (fa:Addr) (o:Obj) (pm cd doc:Value) (a:Addr) (vs:List Value) (ns:List Int),
    Ground q loose [] XP w s₀ mg mb s₁.heap->YP w s₁.heap->
    s₁.heap.get? fa=some o->o.data= .func (docDef d.name d.params d.body d.scope pm cd doc)->s₁.heap.CodeRec cd d.name->mg d.name=some (.ref fa)->
    s₁.heap.get? a=some {cls:= .type "list",data:= .seq vs.toArray}->IntsAre vs ns->ns.length<=n->s₁.gens= #[]->
    codeAny (model l.prog w) callerA (.call (.ref fa) ⟨[.ref a],[]⟩) (fun r s'=>r= .ok (.ret (.bool true))/\OldK s₁.heap s'.heap/\s'.os=s₁.os/\AllBare s'.gens) s₁):
  WalkO q loose XP YP l.row.toRowW d [] (fun f vs=>PySem.call f vs):=by
 intro w s₀ s₁ mg mb G Y fa o pm cd doc dV kV ho hd hcd hD hmg hg args vals as hpre hlay hrd hwl hlo
 obtain rfl:dV= .none:=Dflts.none hD hdf
 obtain rfl:kV= .none:=Dflts.noKw hD
 obtain ⟨a,vs,ns,rfl,rfl,hobj,hints,hlen⟩:=zjB hn hpre hwl
 refine enter_call (codeAny_mono (call w s₀ s₁ mg mb fa o pm cd doc a vs ns G Y ho (fd_plain hd) hcd hmg hobj hints hlen hg) fun r s' hq=> ?_)
 obtain ⟨rfl,h2,h3,h4⟩:=hq
 exact ⟨.inl ⟨.bool true,.bool true,[],rfl,fun _=>rfl,.bool true,zjK l _,fun _=>⟨List.Pairwise.nil,fun _ hm=>(nomatch hm)⟩⟩,h2,h3,h4⟩
section
variable {prog:Program} {w:World} {A:Around} {E:Value->Shared->Prop} {s:Shared} {K:Frag}
end
end Att
namespace L2
open PySem PySem.Spec PyProof.Rows
theorem zeP: ∀ {vs:List Value} {ns:List Int},IntsAre vs ns->za2 (ns.map V.int) vs
 | _,_,.nil=> .nil
 | _,_,.cons n t h=> .cons ⟨t,rfl⟩ (zeP h)
def zsl (H:Hp):Prop:= ∀ b,H b=none\/ ∃ o xs,H b=some (.frz o (.lst xs))
theorem zmo {P:Program} {w:World} {K:W.Frag} {mg mb:Str->Option Value} {CX:CXT} {k:Nat} {fa a:Addr} {fd:FuncData} {x:Str} {sp:Sp} {s₁:Shared} {vs:List Value} {ns:List Int}
  (KX:K.In s₁.heap) (hns:s₁.heap.Ns mainGlobals mg) (hb:s₁.heap.Ns builtinsNs mb) (hbb: ∀ x:Str,x≠"__name__"->mb x=bootBuiltins x) (hlim:s₁.heap.NoLimit) (hg:s₁.gens= #[])
  (ha:s₁.heap.get? a=some {cls:= .type "list",data:= .seq vs.toArray}) (hi:IntsAre vs ns) (hl:ns.length<=sizeLine) (hr:zds k callerA)
  (F: ∀ base:Heap,K.In base->base.Ns mainGlobals mg->zbw P w K mg base CX k fa fd [x] sp) (hbind: ∀ (s:Shared) (u:Value),BindsTo s fd ⟨[u],[]⟩ [(x,u)])
  (hsp: ∀ H:Hp,zsl H->SqL K H a (ns.map V.int)->sp [.ref a] H (fun v _=>v= .bl true) fun _ _ _=>False)
  (hCX: ∀ H e s',CX [] H s₁ (fun _ _ _=>False) e s'->False):
  codeAny (model P w) callerA (.call (.ref fa) ⟨[.ref a],[]⟩) (fun r s'=>r= .ok (.ret (.bool true))/\OldK s₁.heap s'.heap/\s'.os=s₁.os/\AllBare s'.gens) s₁:=by
 have rv:=zeP hi
 have lenV:=hi.length
 have core: ∀ H:Hp,zsl H->SqL K H a (ns.map V.int)->HOk P w H s₁.heap->(∀ b,H b≠none->b=a)->(H a≠none->K.lookup a=none)->
   codeAny (model P w) callerA (.call (.ref fa) ⟨[.ref a],[]⟩) (fun r s'=>r= .ok (.ret (.bool true))/\OldK s₁.heap s'.heap/\s'.os=s₁.os/\AllBare s'.gens) s₁:=by
  intro H hO hS hok hA hK
  have base_of: ∀ {b:Addr} {o:Obj},s₁.heap.get? b=some o->H b=none->(zl3 s₁.heap H).get? b=some o:=fun e n=>zl7 e n
  have noA: ∀ {b:Addr} {o:Obj} {es:Array DictEntry} {ep:Nat},s₁.heap.get? b=some o->o.data= .dict es ep->H b=none:=fun {b o es ep} e d=>by
   cases q:H b with
   | none=>rfl
   | some u=>
    have e':b=a:=hA b (by rw [q];simp)
    subst e'
    rw [ha] at e;cases e
    have d':Data.seq vs.toArray _=Data.dict es ep:=d
    cases d'
  have nsK: ∀ {b:Addr} {m:Str->Option Value},s₁.heap.Ns b m->(zl3 s₁.heap H).Ns b m:=fun {b m} ⟨o,es,ep,e,d,r⟩=>⟨o,es,ep,base_of e (noA e d),d,r⟩
  have hKb:K.In (zl3 s₁.heap H):=fun b o e=>base_of (KX b o e) (by
    cases q:H b with
    | none=>rfl
    | some u=>
      have e':b=a:=hA b (by rw [q];simp)
      subst e'
      rw [hK (by rw [q];simp)] at e;cases e)
  have hM:Mod K mg (zl3 s₁.heap H):=⟨hKb,nsK hns,⟨mb,nsK hb,hbb⟩,let ⟨mc,h1,h2⟩:=hlim;⟨mc,nsK h1,h2⟩⟩
  have e0:zlR P w K mg (zl3 s₁.heap H) callerA [] s₁ H:=⟨rfl,hM,fun b o e=>zoA e,Nat.le_of_eq (zkA _ _),trivial,fun b hb=>absurd (show b∈([]:List Addr) from hb) (by simp),hok,.of_eq hg,.inl rfl⟩
  refine codeAny_mono ((F _ hKb (nsK hns)).run callerA [] s₁ H ⟨[.ref a],[]⟩ [.ref a] [.ref a] _ _ hr e0 (hbind s₁ (.ref a)) (.cons rfl .nil) (hsp H hO hS)) fun r s' h=> ?_
  cases r with
  | error e=>exact (hCX H e s' h).elim
  | ok fl=>
   cases fl with
   | next=>exact qa0 h
   | brk=>exact qa0 h
   | cont=>exact qa0 h
   | ret u=>
    obtain ⟨v,H',os,bare,un,hok',r',q⟩:=h
    have q':v= .bl true:=q
    subst q'
    obtain rfl:u=Value.bool true:=r'
    refine ⟨rfl,OldK.of_keep fun b o e=> ?_,os,bare⟩
    cases q:H b with
    | none=>exact un.keep b o e q (by intro z;exact absurd (show b∈([]:List Addr) from z) (by simp)) (by simp)
    | some u=>
     rcases hO b with z | ⟨ob,xs,z⟩
     ·rw [q] at z;cases z
     ·have z2:=un.frzs b ob _ z
      obtain ⟨e1,_⟩:=hok b _ z
      obtain ⟨e2,_⟩:=hok' b _ z2
      rw [e] at e1;cases e1
      exact e2
 cases hk:K.lookup a with
 | some o=>
  have e:=KX a o hk
  rw [ha] at e
  cases e
  refine core (fun _=>none) (fun _=> .inl rfl) (.inr ⟨_,vs.toArray,_,hk,rfl,rfl,rfl,by rw [qaA,lenV];exact hl,by simpa using rv⟩) (fun b u z=>by have z':(none:Option HO)=some u:=z;cases z') (fun b z=>absurd rfl z) fun z=>absurd rfl z
 | none=>
  refine core (fun b=>if b=a then some (.frz {cls:= .type "list",data:= .seq vs.toArray} (.lst (ns.map V.int))) else none) (fun b=> ?_) (.inl (.inr ⟨{cls:= .type "list",data:= .seq vs.toArray},qa4 rfl⟩)) (fun b u z=> ?_) (fun b z=> ?_) fun _=>hk
  ·by_cases hb:b=a
   ·exact .inr ⟨_,_,qa4 hb⟩
   ·exact .inl (qa5 hb)
  ·by_cases hb:b=a
   ·have z':=(qa4 hb).symm.trans z
    cases z'
    subst hb
    exact ⟨ha,by rw [qaH];exact hl,vs,_,rv,ha⟩
   ·have z':=(qa5 hb).symm.trans z
    cases z'
  ·by_cases hb:b=a
   ·exact hb
   ·exact absurd (qa5 hb) z
theorem znV {l:W.OpenLaw} {n k:Nat} {q:Program} {loose:List Str} {XP:(Str->Option Value)->Heap->Prop} {YP:World->Heap->Prop} {d:DefRec} {K:Params->W.Frag} {CX:World->CXT} {sp:World->Sp} {x:Str}
  (hn:l.most=some n) (hn2:n<=sizeLine) (hdf:d.params.defaults=[]) (hr:zds k callerA)
  (hY: ∀ (w:World) (h:Heap),YP w h->(K w.params).In h)
  (F: ∀ (w:World) (mg:Str->Option Value) (fa:Addr) (h:Heap),(K w.params).In h->h.Ns mainGlobals mg->mg d.name=some (.ref fa)->
    ∃ fd:FuncData,(∀ (s:Shared) (u:Value),BindsTo s fd ⟨[u],[]⟩ [(x,u)])/\
      ∀ base:Heap,(K w.params).In base->base.Ns mainGlobals mg->zbw l.prog w (K w.params) mg base (CX w) k fa fd [x] (sp w))
  (hsp: ∀ (w:World) (H:Hp) (a:Addr) (ns:List Int),ns.length<=n->zsl H->SqL (K w.params) H a (ns.map V.int)->sp w [.ref a] H (fun v _=>v= .bl true) fun _ _ _=>False)
  (hCX: ∀ (w:World) (H:Hp) (s:Shared) (e:Value) (s':Shared),CX w [] H s (fun _ _ _=>False) e s'->False):
  W.WalkO q loose XP YP l.row.toRowW d [] (fun f vs=>PySem.call f vs):=by
 refine Att.zhU hn hdf fun w s₀ s₁ mg mb fa o pm cd doc a vs ns G Y ho hd hcd hmg hobj hints hlen hg=> ?_
 have KX:=hY w _ Y
 obtain ⟨fd,hb,hF⟩:=F w mg fa _ KX G.T.g hmg
 exact zmo KX G.T.g G.T.b G.T.builtins G.T.nolimit hg hobj hints (qaS hlen hn2) hr hF hb (fun H hO hS=>hsp w H a ns hlen hO hS) fun H e s'=>hCX w H s₁ e s'
noncomputable def zd4 (s:Stmt):Arguments:=match s with
 | .FunctionDef _ a _ _ _ _ _ _ _ _=>a
 | _=>{posonlyargs:=[],args:=[],vararg:=none,kwonlyargs:=[],kw_defaults:=[],kwarg:=none,defaults:=[]}
noncomputable def zcq (s:Stmt):List Stmt:=match s with
 | .FunctionDef _ _ b _ _ _ _ _ _ _=>b
 | _=>[]
noncomputable def zae (s:Stmt):Scope:=match s with
 | .FunctionDef _ _ _ _ _ _ sc _ _ _=>sc
 | _=>{kind:= .function,names:=[],isGenerator:=false,isCoroutine:=false}
noncomputable abbrev CX0:CXT:=fun _ _ _ _ _ _=>False
noncomputable abbrev E0:XK:=fun _ _ _=>False
theorem zp4 {X:Cx}:zc3 CX0 X E0:=fun _ _ _ _ _ _ _ h=>h.elim
structure Fun (K:W.Frag) (x qual:Str) (st:Stmt) (f:Addr) (fd:FuncData):Prop where
 ex: ∃ (oc:Value) (od:Option Addr) (kV doc pm:Value) (an:Option Addr) (cdv ct:Value) (osl:Array (Option Value)),
  fd=W.fnOf x qual (zd4 st) (zcq st) (zae st) .none kV doc pm an cdv ct/\K.lookup f=some ⟨oc,od,.func fd,osl⟩/\W.codeIn K cdv qual=true
 kp:W.keepIn K (.ref f)=true
section
variable {P:Program} {w:World} {K:W.Frag} {mg:Str->Option Value} {base:Heap}
theorem Fun.ok {x qual:Str} {st:Stmt} {f:Addr} {fd:FuncData} {N ps:List Str} {k:Nat} {sp:Sp} (F:Fun K x qual st f fd) (S:zaq N ps (zae st)) (len: ∀ vs H Q E,sp vs H Q E->vs.length=ps.length)
  (hbody: ∀ (cdv:Value) (A:Around) (outer:List Env) (s:Shared) (H:Hp) (vs:List V) (Q:VK) (E:XK),zds k (A.deeper (envOfC qual (zae st) s.heap.objs.size f cdv))->sp vs H Q E->
    ∃ t,PSs (zhp CX0 P w K mg base N qual (zae st) f cdv A outer s H E).nox (zcq st) t/\t {nx:=fun _ H'=>Q .non H',rt:=Q} (zdY N vs) H):zbw P w K mg base CX0 (k+1) f fd ps sp:=by
 obtain ⟨oc,od,kV,doc,pm,an,cdv,ct,osl,rfl,lk,hcd⟩:=F.ex
 refine zq3 lk hcd S len fun A outer s H vs Q E hr hsp=> ?_
 obtain ⟨t,h,q⟩:=hbody cdv A outer s H vs Q E hr hsp
 exact ⟨t,h.nox,q⟩
theorem Fun.binds {x qual:Str} {st:Stmt} {f:Addr} {fd:FuncData} {ps:List Str} (F:Fun K x qual st f fd)
  (h: ∀ (kV doc pm:Value) (an:Option Addr) (cdv ct:Value) (us:List Value),us.length=ps.length->bindArgs (W.fnOf x qual (zd4 st) (zcq st) (zae st) .none kV doc pm an cdv ct) ⟨us,[]⟩=pure (ps.zip us)):zaH K fd ps []:=by
 obtain ⟨oc,od,kV,doc,pm,an,cdv,ct,osl,rfl,lk,hcd⟩:=F.ex
 exact .all (h kV doc pm an cdv ct)
theorem zaG {x qual:Str} {st:Stmt} {f:Addr} {oc:Value} {od an:Option Addr} {osl:Array (Option Value)} {kV doc pm cdv ct:Value} (l:K.lookup f=some ⟨oc,od,.func (W.fnOf x qual (zd4 st) (zcq st) (zae st) .none kV doc pm an cdv ct),osl⟩)
  (c:W.codeIn K cdv qual=true) (k:W.keepIn K (.ref f)=true):Fun K x qual st f (W.fnOf x qual (zd4 st) (zcq st) (zae st) .none kV doc pm an cdv ct):=⟨⟨oc,od,kV,doc,pm,an,cdv,ct,osl,rfl,l,c⟩,k⟩
end
section
variable {X:Cx}
theorem pv (i:Nat) {x:Str} {pos:Pos} (hN:X.N[i]? = some x:=by rfl) (hv:Vis X.env.scope x:=by first | exact Or.inl rfl | exact Or.inr (Or.inl rfl) | exact Or.inr (Or.inr rfl)) (hd:(x==("__debug__":Str))=false:=by decide)
  (hcd:(x==("__classdict__":Str))=false:=by decide):PE X (.Name x pos) (ztg i):=zmM hN hv hd hcd
end
theorem zpe {A B:Prop} (h:B):if false=true then A else B:=by
 rw [qa5 Bool.false_ne_true]
 exact h
theorem zpj {A B:Prop} (h:A):if true=true then A else B:=by
 rw [qa4 rfl]
 exact h
def zlA (H H':Hp):Prop:= ∀ b o,H b=some o->H' b=some o
theorem zlA.refl (H:Hp):zlA H H:=fun _ _ h=>h
theorem zlA.trans {H H1 H2:Hp} (a:zlA H H1) (b:zlA H1 H2):zlA H H2:=fun c o h=>b c o (a c o h)
theorem zlA.free {H H':Hp} (e:zlA H H') {l:Addr} (h:H' l=Option.none):H l=Option.none:=by
 cases q:H l with
 | none=>rfl
 | some o=>
  rw [e l o q] at h
  cases h
theorem zlA.seq {K:W.Frag} {H H':Hp} {a:Addr} {xs:List V} (e:zlA H H') (h:SqL K H a xs):SqL K H' a xs:=by
 rcases h with (h | ⟨o,h⟩) | h
 ·exact .inl (.inl (e _ _ h))
 ·exact .inl (.inr ⟨o,e _ _ h⟩)
 ·exact .inr h
noncomputable def zbn (cells:List (Str×Addr)):List (Str×NameKind)->List (Str×Addr)->List (Str×Addr)
 | [],acc=>acc
 | (n,k)::r,acc=>if k== .free then zbn cells r ((n,(cells.lookup n).getD 0)::acc) else zbn cells r acc
theorem zdF {scope:Scope} {env:Env} (h: ∀ x∈scope.names,x.2= .free-> ∃ c,env.cells.lookup x.1=some c):closureFor scope env=pure (zbn env.cells scope.names []):=by
 simp only [closureFor]
 generalize hn:scope.names=names at h
 clear hn
 generalize hacc:([]:List (Str×Addr))=acc
 clear hacc
 have key: ∀ (names:List (Str×NameKind)) (acc:List (Str×Addr)),(∀ x∈names,x.2= .free-> ∃ c,env.cells.lookup x.1=some c)->
   (forIn (m:=Sem) names acc fun (x:Str×NameKind) (r:List (Str×Addr))=>(match x with
     | (name,kind)=>if (kind==NameKind.free)=true then do
         let a<-cellOf env name
         pure (ForInStep.yield ((name,a)::r))
       else pure (ForInStep.yield r)))=pure (zbn env.cells names acc):=by
  intro names
  induction names with
  | nil=>intro acc _;rfl
  | cons x r ih=>
   intro acc h
   obtain ⟨n,k⟩:=x
   rw [List.forIn_cons]
   unfold zbn
   by_cases hk:(k==NameKind.free)=true
   ·simp only [hk,if_true]
    obtain ⟨c,hc⟩:=h (n,k) qau (by simpa using hk)
    have e:cellOf env n=pure c:=by unfold cellOf;rw [show env.cells.lookup n=some c from hc]
    rw [e,show (env.cells.lookup n).getD 0=c by rw [show env.cells.lookup n=some c from hc];rfl]
    exact ih _ fun y hy=>h y (qan _ hy)
   ·simp only [hk,if_false]
    exact ih _ fun y hy=>h y (qan _ hy)
 have k:=key names acc h
 refine Eq.trans (congrArg (fun (z:Sem (List (Str×Addr)))=>z>>=fun r=>pure r) k) ?_
 rfl
theorem zd2 {cells:List (Str×Addr)}: ∀ {names:List (Str×NameKind)} {acc:List (Str×Addr)} {n:Str} {c:Addr},(n,c)∈zbn cells names acc->
  (n,c)∈acc\/((n,NameKind.free)∈names/\c=(cells.lookup n).getD 0)
 | [],_,_,_,h=> .inl h
 | (y,k)::r,acc,n,c,h=>by
  unfold zbn at h
  by_cases hk:(k==NameKind.free)=true
  ·rw [qa4 hk] at h
   have ek:k= .free:=by simpa using hk
   subst ek
   rcases zd2 h with h | ⟨h1,h2⟩
   ·rcases qaP.mp h with e | h
    ·cases e
     exact .inr ⟨qau,rfl⟩
    ·exact .inl h
   ·exact .inr ⟨qan _ h1,h2⟩
  ·rw [qa5 hk] at h
   rcases zd2 h with h | ⟨h1,h2⟩
   ·exact .inl h
   ·exact .inr ⟨qan _ h1,h2⟩
theorem zdw {cells:List (Str×Addr)} {x:Str} {c:Addr} (hc:cells.lookup x=some c): ∀ (names:List (Str×NameKind)) (acc:List (Str×Addr)),((x,NameKind.free)∈names\/acc.lookup x=some c)->(zbn cells names acc).lookup x=some c
 | [],acc,h=>h.elim (fun z=>nomatch z) id
 | (y,k)::r,acc,h=>by
  unfold zbn
  by_cases hk:(k==NameKind.free)=true
  ·rw [qa4 hk]
   refine zdw hc r _ ?_
   by_cases hy:x=y
   ·subst hy
    exact .inr (by rw [List.lookup_cons,beq_self_eq_true,hc];rfl)
   ·rcases h with h | h
    ·rcases qaP.mp h with e | h
     ·cases e;exact absurd rfl hy
     ·exact .inl h
    ·refine .inr ?_
     rw [List.lookup_cons,show (x==y)=false by simpa using hy]
     exact h
  ·rw [qa5 hk]
   refine zdw hc r _ ?_
   rcases h with h | h
   ·rcases qaP.mp h with e | h
    ·cases e;exact absurd rfl hk
    ·exact .inl h
   ·exact .inr h
theorem zcJ: ∀ {names:List (Str×NameKind)} {n:Nat} {acc:List (Str×Addr)} {x:Str} {c:Addr},(x,c)∈cellsFrom n names acc->(x,c)∈acc\/(n<=c/\(x,NameKind.cell)∈names)
 | [],_,_,_,_,h=> .inl h
 | (y,k)::r,n,acc,x,c,h=>by
  unfold cellsFrom at h
  by_cases hk:(k==NameKind.cell)=true
  ·rw [qa4 hk] at h
   have ek:k= .cell:=by simpa using hk
   subst ek
   rcases zcJ h with h | ⟨h,h'⟩
   ·rcases qaP.mp h with e | h
    ·cases e;exact .inr ⟨qaV _,qau⟩
    ·exact .inl h
   ·exact .inr ⟨Nat.le_of_succ_le h,qan _ h'⟩
  ·rw [qa5 hk] at h
   rcases zcJ h with h | ⟨h,h'⟩
   ·exact .inl h
   ·exact .inr ⟨h,qan _ h'⟩
theorem zb0 {x:Str} {c:Addr}: ∀ (names:List (Str×NameKind)) (n:Nat) (acc:List (Str×Addr)),(x,NameKind.cell)∉names->acc.lookup x=some c->(cellsFrom n names acc).lookup x=some c
 | [],_,_,_,h=>h
 | (y,k)::r,n,acc,hn,h=>by
  unfold cellsFrom
  by_cases hk:(k==NameKind.cell)=true
  ·rw [qa4 hk]
   have ek:k= .cell:=by simpa using hk
   subst ek
   refine zb0 r _ _ (fun z=>hn (qan _ z)) ?_
   have hy:x≠y:=fun e=>hn (by rw [e];exact qau)
   rw [List.lookup_cons,show (x==y)=false by simpa using hy]
   exact h
  ·rw [qa5 hk]
   exact zb0 r _ _ (fun z=>hn (qan _ z)) h
theorem zb4: ∀ (names:List (Str×NameKind)) (n:Nat) (acc:List (Str×Addr)),(∀ x c,(x,c)∈acc->c<n)->(acc.Pairwise fun x y=>x.2≠y.2)->(cellsFrom n names acc).Pairwise fun x y=>x.2≠y.2
 | [],_,_,_,h=>h
 | (y,k)::r,n,acc,hlt,h=>by
  unfold cellsFrom
  by_cases hk:(k==NameKind.cell)=true
  ·rw [qa4 hk]
   refine zb4 r (n+1) _ (fun x c hm=> ?_) (qay.mpr ⟨fun z hz e=> ?_,h⟩)
   ·rcases qaP.mp hm with e | hm
    ·cases e;exact Nat.lt_succ_self _
    ·exact Nat.lt_succ_of_lt (hlt x c hm)
   ·have:=hlt z.1 z.2 hz
    have e':n=z.2:=e
    exact qaN _ (e'▸this)
  ·rw [qa5 hk]
   exact zb4 r n acc hlt h
noncomputable def zoc (env:Env) (scope:Scope) (C:Addr):Env:=
 {scope:=relabel scope env,locals:=C,globals:=env.globals,cells:=cellsFrom (C+1) scope.names (zbn env.cells scope.names []),qual:=env.qual,func:=none,code:=env.code,frame:=env.frame,builtins:=env.builtins}
section
variable {M:Model} {A:Around} {E:Value->Shared->Prop} {s:Shared}
theorem zfi {scope:Scope} {env:Env} {cl:List (Str×Addr)} {Q:Env->Shared->Prop}
  (hQ: ∀ h',(∀ b o,s.heap.get? b=some o->h'.get? b=some o)->h'.Ns s.heap.objs.size (fun _=>none)->(∀ x c,(x,NameKind.cell)∈scope.names->(x,c)∈cellsFrom (s.heap.objs.size+1) scope.names cl->(x,c)∉cl->h'.IsCell c none)->
    Q {scope,locals:=s.heap.objs.size,globals:=env.globals,cells:=cellsFrom (s.heap.objs.size+1) scope.names cl,qual:=env.qual,func:=none,code:=env.code,frame:=env.frame,builtins:=env.builtins} {s with heap:=h'}):
  wpAny M A (newFunctionEnv scope env.globals cl [] env.qual none .none (some env)) Q E s:=by
 simp only [newFunctionEnv,Option.isSome_some,if_true]
 refine qaW (wpAny_alloc ?_)
 refine qaW (wpAny_layCells _ (fun name kind cells=>by cases hkc:kind==NameKind.cell<;>simp [hkc]) _ _ _ _ ?_)
 simp only [List.forIn_nil]
 refine qaW (qaX (qaX ?_))
 rw [show ({s with heap:=s.heap.push {cls:= .type "dict",data:= .dict #[]}}:Shared).heap.objs.size=s.heap.objs.size+1 from qaL ..]
 have key: ∀ (names:List (Str×NameKind)) (h:Heap) (acc:List (Str×Addr)) (x:Str) (c:Addr),(x,c)∈cellsFrom h.objs.size names acc->(x,c)∉acc->(pushCells h names).IsCell c none:=by
  intro names
  induction names with
  | nil=>intro h acc x c hm hn;exact absurd hm hn
  | cons y r ih=>
   intro h acc x c hm hn
   obtain ⟨n,k⟩:=y
   unfold cellsFrom at hm
   unfold pushCells
   by_cases hk:(k==NameKind.cell)=true
   ·rw [qa4 hk] at hm ⊢
    by_cases hin:(x,c)∈((n,h.objs.size)::acc)
    ·rcases qaP.mp hin with e | e
     ·cases e
      exact ⟨_,pushCells_keeps _ _ _ _ (qar _ rfl),rfl⟩
     ·exact absurd e hn
    ·refine ih (h.push {cls:= .type "cell",data:= .cell none}) ((n,h.objs.size)::acc) x c ?_ hin
     rw [qaL]
     exact hm
   ·rw [qa5 hk] at hm ⊢
    exact ih h acc x c hm hn
 refine hQ _ (fun b o e=>pushCells_keeps _ _ b o (qag _ e)) ((Heap.Ns.new s.heap (.type "dict")).keeps (pushCells_keeps _ _)) fun x c _ hm hn=> ?_
 refine key scope.names _ cl x c ?_ hn
 rw [qaL]
 exact hm
end
section
variable {prog:Program} {w:World} {A:Around} {E:Value->Shared->Prop} {R:Result->Shared->Prop} {s:Shared}
theorem zg8 {elt target iter:Expr} {ifs:List Expr} {scope:Scope} {pos:Pos} {it acc:Value} {env:Env} (I:Nat->Shared->Prop)
  (turn: ∀ n s,I n s->wpAny (model prog w) A (pyNext it) (fun r s₁=>match r with
    | none=>R (.ok .next) s₁
    | some v=>wpAny (model prog w) A (letOwnedTupleGo target it v) (fun _ s₁'=>wpAny (model prog w) A (assign target env v) (fun _ s₂=>
        wpAny (model prog w) A (forIn ifs true fun c r=>if r=true then do let ok<-isTrue c env (eval c env);pure (ForInStep.yield ok) else pure (ForInStep.yield r)) (fun ok s₃=>
          if ok=true then wpAny (model prog w) A (eval elt env) (fun x s₄=>
            wpAny (model prog w) A (call (.builtin "list.append") [acc,x]) (fun _ s₅=> ∃ m,m<n/\I m s₅) (fun _ _=>False) s₄) (fun _ _=>False) s₃
          else ∃ m,m<n/\I m s₃) (fun _ _=>False) s₂) (fun _ _=>False) s₁') (fun _ _=>False) s₁) (fun _ _=>False) s)
  (n:Nat) (h:I n s):
  codeAny (model prog w) A (.compLoop (.ListComp elt [⟨target,iter,ifs,0⟩] scope pos) 0 it acc env) R s:=by
 refine codeAny_loop rfl I (fun n s hI=> ?_) n h
 show wpAny _ A ((compTurn (.ListComp elt [⟨target,iter,ifs,0⟩] scope pos) 0 it acc env).onRaise (fun x=>do noteFrame x env;theTreesLotGoes x)) _ _ s
 refine wpAny_noted ?_
 rw [compTurn_list]
 refine qaW (wpAny_standAt (qaW (qaZ (turn n s hI) (fun r s₁ h₁=> ?_) fun _ _ h'=>h'.elim)))
 cases r with
 | none=>exact qaX h₁
 | some v=>
  refine qaW (qaZ h₁ (fun _ s₁' h₁'=> ?_) fun _ _ h'=>h'.elim)
  refine qaW (qaZ h₁' (fun _ s₂ h₂=>qaW (qaZ h₂ (fun ok s₃ h₃=> ?_) fun _ _ h'=>h'.elim)) fun _ _ h'=>h'.elim)
  cases ok with
  | false=>exact qaX ⟨rfl,h₃⟩
  | true=>
   exact qaW (qaW (qaZ h₃ (fun x s₄ h₄=>qaW (qaZ h₄ (fun _ s₅ h₅=>qaX (qaX ⟨rfl,h₅⟩)) fun _ _ h'=>h'.elim)) fun _ _ h'=>h'.elim))
end
noncomputable abbrev cxB (X:Cx) (scope:Scope) (N:List Str) (s:Shared) (H:Hp) (fp:List Addr):Cx:=
 {prog:=X.prog,w:=X.w,K:=X.K,mg:=X.mg,base:=X.base,A:=X.A,N:=N,s₀:=s,H₀:=H,env:=zoc X.env scope s.heap.objs.size,outer:=X.stack,stack:=X.stack,ex:=fp,
   fn:=fun x=>scope.names.lookup x==some .cell,calm:=X.calm,pn:=[],xe:=fun _ _=>False}
noncomputable def zmP (Xn:List (Str×NameKind)) (XN:List Str) (names:List (Str×NameKind)) (N:List Str) (src:List (Option Nat)):Bool:=
 decide N.Nodup && decide (names.map (·.1)).Nodup && (src.length==N.length) &&
 names.all (fun x=>x.2 != .local || names.lookup x.1==some .local) &&
 names.all (fun x=>x.2 != .cell || names.lookup x.1==some .cell) &&
 names.all (fun x=>x.2 != .free || Xn.lookup x.1==some .cell || Xn.lookup x.1==some .free) &&
 (N.zip src).all (fun p=>match p.2 with
   | none=>true
   | some i=>XN[i]? == some p.1 && names.lookup p.1==some .free)
structure BOk (X:Cx) (scope:Scope) (N:List Str) (src:List (Option Nat)):Prop where
 kind:scope.kind= .function
 nd:N.Nodup
 keys:(scope.names.map (·.1)).Nodup
 len:src.length=N.length
 locs: ∀ x∈scope.names,x.2= .local->scope.names.lookup x.1=some .local
 cels: ∀ x∈scope.names,x.2= .cell->scope.names.lookup x.1=some .cell
 free: ∀ x∈scope.names,x.2= .free->X.env.kindOf x.1=some .cell\/X.env.kindOf x.1=some .free
 src: ∀ (k i:Nat) (x:Str),src[k]? = some (some i)->N[k]? = some x->X.N[i]? = some x/\scope.names.lookup x=some .free
theorem BOk.of {X:Cx} {scope:Scope} {N:List Str} {src:List (Option Nat)} {Xn:List (Str×NameKind)} {XN:List Str} (hk:scope.kind= .function) (hX:X.env.scope.names=Xn) (hN:X.N=XN)
  (h:zmP Xn XN scope.names N src=true):BOk X scope N src:=by
 unfold zmP at h
 simp only [qaG,qaD,List.all_eq_true,beq_iff_eq] at h
 obtain ⟨⟨⟨⟨⟨⟨h1,h2⟩,h3⟩,h4⟩,h4'⟩,h5⟩,h6⟩:=h
 refine ⟨hk,h1,h2,h3,fun x hx e=> ?_,fun x hx e=> ?_,fun x hx e=> ?_,fun k i x e1 e2=> ?_⟩
 ·have:=h4 x hx
  rw [e] at this
  simpa using this
 ·have:=h4' x hx
  rw [e] at this
  simpa using this
 ·have:=h5 x hx
  rw [e] at this
  unfold Env.kindOf
  rw [hX]
  simpa using this
 ·have hm:(x,some i)∈N.zip src:=by
   refine List.mem_iff_getElem?.mpr ⟨k,?_⟩
   rw [List.getElem?_zip_eq_some]
   exact ⟨e2,e1⟩
  have:=h6 _ hm
  dsimp only at this
  simp only [qaG,beq_iff_eq] at this
  rw [hN]
  exact this
noncomputable def bStart (src:List (Option Nat)) (σ:St):St:=src.map fun o=>o.bind fun i=>(σ[i]?).join
theorem zfm {scope:Scope} {env:Env} {x:Str}:(relabel scope env).names.lookup x=(scope.names.lookup x).map fun k=>if (k== .free && env.scope.kind== .function && env.kindOf x==some .cell) then .cell else k:=by
 show List.lookup x (scope.names.map _)=_
 induction scope.names with
 | nil=>rfl
 | cons y r ih=>
  obtain ⟨n,k⟩:=y
  rw [qaM]
  dsimp only
  by_cases hx:x=n
  ·subst hx
   by_cases hc:(k==NameKind.free && env.scope.kind== .function && env.kindOf x==some .cell)=true
   ·rw [qa4 hc,List.lookup_cons,List.lookup_cons,beq_self_eq_true]
    dsimp only [Option.map]
    rw [qa4 hc]
   ·rw [qa5 hc,List.lookup_cons,List.lookup_cons,beq_self_eq_true]
    dsimp only [Option.map]
    rw [qa5 hc]
  ·have hb:(x==n)=false:=by simpa using hx
   by_cases hc:(k==NameKind.free && env.scope.kind== .function && env.kindOf n==some .cell)=true
   ·rw [qa4 hc,List.lookup_cons,List.lookup_cons,hb]
    exact ih
   ·rw [qa5 hc,List.lookup_cons,List.lookup_cons,hb]
    exact ih
section
variable {X:Cx} {pins:List (Addr×Obj)} {σ:St} {H:Hp} {s:Shared} {scope:Scope} {N:List Str} {src:List (Option Nat)} {fp:List Addr}
theorem zoM (I:Inv X pins σ H s) (B:BOk X scope N src) {x:Str} {c:Addr} (h:(x,c)∈zbn X.env.cells scope.names []):X.env.cells.lookup x=some c/\(x,NameKind.free)∈scope.names:=by
 rcases zd2 h with z | ⟨z,e⟩
 ·exact nomatch z
 ·obtain ⟨c',hc⟩:=I.ok.has x (B.free _ z rfl)
  rw [hc] at e
  exact ⟨by rw [hc,e];rfl,z⟩
theorem zhc {l:List (Str×NameKind)} (h:(l.map (·.1)).Nodup) {x:Str} {j k:NameKind} (a:(x,j)∈l) (b:(x,k)∈l):j=k:=by
 induction l with
 | nil=>exact nomatch a
 | cons y r ih=>
  obtain ⟨h1,h2⟩:=List.nodup_cons.mp (show (y.1::r.map (·.1)).Nodup from h)
  rcases qaP.mp a with e | a<;>rcases qaP.mp b with e' | b
  ·rw [<- e] at e';cases e';rfl
  ·exact absurd (qaU.mpr ⟨_,b,by rw [<- e]⟩) h1
  ·exact absurd (qaU.mpr ⟨_,a,by rw [<- e']⟩) h1
  ·exact ih h2 a b
theorem zdW (I:Inv X pins σ H s): ∀ (names:List (Str×NameKind)) (acc:List (Str×Addr)),(∀ x∈names,x.2= .free-> ∃ c,X.env.cells.lookup x.1=some c)->(names.map (·.1)).Nodup->(∀ x c,(x,c)∈acc->X.env.cells.lookup x=some c/\x∉names.map (·.1))->
  (acc.Pairwise fun x y=>x.2≠y.2)->(zbn X.env.cells names acc).Pairwise fun x y=>x.2≠y.2
 | [],_,_,_,_,h=>h
 | (n,k)::r,acc,hf,nd,ha,h=>by
  unfold zbn
  obtain ⟨h1,h2⟩:=List.nodup_cons.mp (show (n::r.map (·.1)).Nodup from nd)
  by_cases hk:(k==NameKind.free)=true
  ·rw [qa4 hk]
   obtain ⟨c,hc⟩:=hf (n,k) qau (by simpa using hk)
   have hc:X.env.cells.lookup n=some c:=hc
   rw [show (X.env.cells.lookup n).getD 0=c by rw [hc];rfl]
   refine zdW I r _ (fun x hx=>hf x (qan _ hx)) h2 (fun x c' hm=> ?_) (qay.mpr ⟨fun y hy e=> ?_,h⟩)
   ·rcases qaP.mp hm with e | hm
    ·cases e;exact ⟨hc,h1⟩
    ·exact ⟨(ha x c' hm).1,fun z=>(ha x c' hm).2 (qan _ z)⟩
   ·obtain ⟨q1,q2⟩:=ha y.1 y.2 hy
    have e':c=y.2:=e
    rw [<- e'] at q1
    have:=I.ok.inj _ _ _ hc q1
    exact q2 (by rw [<- this];exact qau)
  ·rw [qa5 hk]
   exact zdW I r acc (fun x hx=>hf x (qan _ hx)) h2 (fun x c' hm=>⟨(ha x c' hm).1,fun z=>(ha x c' hm).2 (qan _ z)⟩) h
theorem zko (I:Inv X pins σ H s) (B:BOk X scope N src) (hf: ∀ b∈fp,ziw X pins H b) (hfo: ∀ b∈fp, ∃ o,s.heap.get? b=some o) {h':Heap} (hk: ∀ b o,s.heap.get? b=some o->h'.get? b=some o) (hns:h'.Ns s.heap.objs.size (fun _=>none))
  (hce: ∀ x c,(x,NameKind.cell)∈scope.names->(x,c)∈cellsFrom (s.heap.objs.size+1) scope.names (zbn X.env.cells scope.names [])->(x,c)∉zbn X.env.cells scope.names []->h'.IsCell c none):
  Inv (cxB X scope N s H fp) [] (bStart src σ) H {s with heap:=h'}:=by
 have cin: ∀ {x:Str} {c:Addr},(x,c)∈zbn X.env.cells scope.names []->X.env.cells.lookup x=some c/\(x,NameKind.free)∈scope.names:=fun h=>zoM I B h
 have old: ∀ {x:Str} {c:Addr},X.env.cells.lookup x=some c->c<s.heap.objs.size:=fun {x c} h=>(let ⟨_,q⟩:=I.cell x c h;q.lt)
 have all: ∀ {x:Str} {c:Addr},(x,c)∈cellsFrom (s.heap.objs.size+1) scope.names (zbn X.env.cells scope.names [])->(X.env.cells.lookup x=some c/\(x,NameKind.free)∈scope.names)\/(s.heap.objs.size<c/\(x,NameKind.cell)∈scope.names):=fun {x c} h=>by
  rcases zcJ h with z | ⟨z,z'⟩
  ·exact .inl (cin z)
  ·exact .inr ⟨z,z'⟩
 have lk: ∀ {x:Str} {c:Addr},(zoc X.env scope s.heap.objs.size).cells.lookup x=some c->(x,c)∈cellsFrom (s.heap.objs.size+1) scope.names (zbn X.env.cells scope.names []):=fun h=>PySem.mem_of_lookup h
 have hasF: ∀ x∈scope.names,x.2= .free-> ∃ c,X.env.cells.lookup x.1=some c:=fun x hx e=>I.ok.has x.1 (B.free x hx e)
 have ap:(cellsFrom (s.heap.objs.size+1) scope.names (zbn X.env.cells scope.names [])).Pairwise fun x y=>x.2≠y.2:=
  zb4 _ _ _ (fun x c hm=>Nat.lt_succ_of_lt (old (cin hm).1)) (zdW I scope.names [] hasF B.keys (fun _ _ z=>nomatch z) .nil)
 have outer: ∀ {x:Str} {c:Addr},(x,NameKind.free)∈scope.names->X.env.cells.lookup x=some c->(zoc X.env scope s.heap.objs.size).cells.lookup x=some c:=fun {x c} h1 h2=>
  zb0 _ _ _ (fun z=>nomatch zhc B.keys h1 z) (zdw h2 scope.names [] (.inl h1))
 have kinds: ∀ x,(zoc X.env scope s.heap.objs.size).kindOf x=(scope.names.lookup x).map fun k=>if (k== .free && X.env.scope.kind== .function && X.env.kindOf x==some .cell) then .cell else k:=fun x=>zfm
 have ckind: ∀ x,((zoc X.env scope s.heap.objs.size).kindOf x=some .cell\/(zoc X.env scope s.heap.objs.size).kindOf x=some .free)->scope.names.lookup x=some .cell\/scope.names.lookup x=some .free:=fun x h=>by
  rw [kinds x] at h
  cases e:scope.names.lookup x with
  | none=>rw [e] at h;simp at h
  | some k=>
   rw [e] at h
   cases k<;>simp at h ⊢
 refine ⟨⟨I.ok.mod,B.kind,I.ok.glob,I.ok.blt,qaV _,fun x y c h1 h2=>name_of_addr ap (lk h1) (lk h2),fun x hx=> ?_,fun x c hfn hx=> ?_,I.ok.hd,I.handA,I.ok.frames,.inl rfl,fun b hb=> ?_,I.bs,qaS I.ok.bsz I.sz,fun b o e hb=> ?_,fun b hb hb'=> ?_,I.stack,I.stkFree⟩,
   rfl,I.bare,Un.kept hk,⟨_,hns,fun i x v h1 h2 h3=> ?_⟩,fun x c h=> ?_,I.hok.fresh (qaV _),fun x c h=> ?_,fun p hp=>absurd (show p∈([]:List (Addr×Obj)) from hp) (by simp),I.hok.kept hk,?_⟩
 ·-- has
  rcases ckind x hx with h | h
  ·exact Option.isSome_iff_exists.mp (W.cellsFrom_some scope.names _ _ (.inl h))
  ·have hm:=PySem.mem_of_lookup h
   obtain ⟨c,hc⟩:=hasF _ hm rfl
   exact ⟨c,outer hm hc⟩
 ·-- cab
  have hfn:scope.names.lookup x=some .cell:=by simpa using hfn
  rcases all (lk hx) with ⟨_,z⟩ | ⟨z,_⟩
  ·exact absurd (zhc B.keys z (PySem.mem_of_lookup hfn)) (by decide)
  ·exact Nat.le_of_lt z
 ·-- exf
  obtain ⟨o,ho⟩:=hfo b hb
  refine ⟨qaR (qaQ ho),fun x c hx z=> ?_⟩
  rcases all (lk hx) with ⟨q,_⟩ | ⟨q,_⟩
  ·exact (hf b hb).2.2.2.2.1 x c q z
  ·have:=qaQ ho
   rw [<- z] at this
   exact qaN _ (Nat.lt_trans q this)
 ·-- noex
  rcases (hf b hb).2.2.2.1 with z | z
  ·exact I.ok.noex b o e z
  ·exact qaN _ (qaw (qaw (qaQ e) I.ok.bsz) z)
 ·-- exfs
  rcases qaP.mp (I.stkSub b hb') with z | z
  ·exact (hf b hb).2.1 z
  ·exact (hf b hb).2.2.1 z
 ·-- loc
  unfold bStart at h2
  rw [List.getElem?_map] at h2
  cases e:src[i]? with
  | none=>rw [e] at h2;cases h2
  | some o=>
   rw [e] at h2
   cases o with
   | none=>cases h2
   | some j=>
    have h2:(σ[j]?).join=some v:=by simpa using h2
    have e3:σ[j]? = some (some v):=by
     cases q:σ[j]? with
     | none=>rw [q] at h2;cases h2
     | some z=>rw [q] at h2;simp at h2;rw [h2]
    obtain ⟨b1,b2⟩:=B.src i j x e h1
    have hm:=PySem.mem_of_lookup b2
    obtain ⟨m,hn,hl⟩:=I.loc
    have hfr:=B.free _ hm rfl
    obtain ⟨u,r,l⟩:=hl j x v b1 e3 (.inr hfr)
    rcases l with ⟨k,_⟩ | ⟨k,c,hc,q⟩
    ·rcases hfr with z | z<;>(have z':=k.symm.trans z;cases z')
    ·refine ⟨u,r,.inr ⟨?_,c,outer hm hc,q.keeps hk⟩⟩
     rw [kinds x,b2]
     dsimp only [Option.map]
     split
     ·exact .inl rfl
     ·exact .inr rfl
 ·-- cell
  rcases all (lk h) with ⟨q,_⟩ | ⟨q,q'⟩
  ·obtain ⟨v,z⟩:=I.cell x c q
   exact ⟨v,z.keeps hk⟩
  ·exact ⟨none,hce x c q' (lk h) fun z=>absurd (Nat.lt_trans q (old (cin z).1)) (qaN _)⟩
 ·-- freeC
  rcases all (lk h) with ⟨q,_⟩ | ⟨q,q'⟩
  ·exact I.freeC x c q
  ·exact I.hok.fresh (Nat.le_of_lt q)
 ·unfold bStart
  rw [qaH]
  exact B.len
end
def PCs (X:Cx) (ifs:List Expr) (t:TT):Prop:=
 ∀ (pins:List (Addr×Obj)) (s:Shared) (σ:St) (H:Hp) (Q:Bool->Hp->Prop),Inv X pins σ H s->t σ H Q->
  wpAny (model X.prog X.w) X.A (forIn ifs true fun c r=>if r=true then do let ok<-isTrue c X.env (eval c X.env);pure (ForInStep.yield ok) else pure (ForInStep.yield r)) (TP X pins σ Q) X.xe s
noncomputable def ztm:TT:=fun _ H Q=>Q true H
theorem znu {X:Cx}:PCs X [] ztm:=fun pins s σ H Q I h=>wpAny_tests_nil ⟨H,I,h⟩
theorem zol {X:Cx} {c:Expr} {t:TT} (h:PT X c t):PCs X [c] t:=fun pins s σ H Q I hw=>wpAny_tests_one (h pins s σ H Q I hw)
def zsQ (J:It) (g:TG) (tc:TT) (te:TE) (σ0:St) (H1:Hp) (D:Addr) (Q:Hp->Prop):Prop:=
 ∃ W:Nat->Nat->St->Hp->Prop,(∃ m,W 0 m σ0 (upd H1 D (.lst [])))/\ ∀ i m σ' H',W i m σ' H'->
  (J.stop i H'/\Q H')\/(J.go i H'/\ ∃ Nn:St->Hp->Prop,(∀ σ2 H2,Nn σ2 H2-> ∃ m',m'<m/\W (i+1) m' σ2 H2)/\ ∀ x H2,J.yld i H' x H2->g x σ' H2 fun σ2 H3=>tc σ2 H3 fun b H4=>
    if b=true then te σ2 H4 fun y H5=> ∃ xs,H5 D=some (.lst xs)/\xs.length<sizeLine/\Nn σ2 (upd H5 D (.lst (xs++[y]))) else Nn σ2 H4)
section
variable {X:Cx} {scope:Scope} {N:List Str} {src:List (Option Nat)} {tg iter elt:Expr} {ifs:List Expr} {pos:Pos}
theorem zid {pins:List (Addr×Obj)} {σ:St} {H:Hp} {s₂:Shared} {it:Addr} {fp:List Addr} {tn:Nat->Heap->Prop} {J:It} {g:TG} {tc:TT} {te:TE} {Q:Addr->Hp->Prop} {E:Value->Shared->Prop} {RR:Value->Addr->Result->Shared->Prop}
  (B:BOk X scope N src)
  (hg: ∀ s H fp,PG (cxB X scope N s H fp) tg g) (ht: ∀ s H fp,PCs (cxB X scope N s H fp) ifs tc) (he: ∀ s H fp,PE (cxB X scope N s H fp) elt te)
  (I2:Inv X pins σ H s₂) (T:zpg X.prog X.w X.K tg J fp it tn) (st2:tn 0 s₂.heap) (f2: ∀ b∈fp,ziw X pins H b) (hw: ∀ D,H D=none->zsQ J g tc te (bStart src σ) H D (Q D))
  (hRR: ∀ D C H' s' m,Inv X pins σ H' s'->s'.heap.Ns C m->s₂.heap.objs.size<=C->C<s'.heap.objs.size->H' C=none->Q D H'->RR (.ref D) C (.ok .next) s'):
  wpAny (model X.prog X.w) X.A (newList []) (fun acc s₃=>wpAny (model X.prog X.w) X.A (newFunctionEnv scope X.env.globals (zbn X.env.cells scope.names []) [] X.env.qual none .none (some X.env)) (fun cenv s₄=>
    codeAny (model X.prog X.w) X.A (.compStart (.ListComp elt [⟨tg,iter,ifs,0⟩] scope pos) 0 (.ref it) acc {cenv with scope:=relabel scope X.env}) (RR acc cenv.locals) s₄) E s₃) E s₂:=by
 refine qaC (zfi fun h₁ hk₁ hns₁ hce₁=> ?_)
 dsimp only at hk₁ hns₁ hce₁ ⊢
 have hfresh:H s₂.heap.objs.size=none:=I2.hok.fresh (qaV _)
 have I3:Inv X pins σ (upd H s₂.heap.objs.size (.lst [])) {s₂ with heap:=s₂.heap.push {cls:= .type "list",dict:=none,data:= .seq ([]:List Value).toArray}}:=by
  have:=I2.lnew (its:=[]) (ys:=[]) (t':=s₂.toks) .nil (Nat.zero_le _)
  exact this
 obtain ⟨W,⟨m0,w0⟩,turn⟩:=hw _ hfresh
 generalize hD:s₂.heap.objs.size=D at*
 generalize hs3:({s₂ with heap:=s₂.heap.push {cls:= .type "list",dict:=none,data:= .seq ([]:List Value).toArray}}:Shared)=s₃ at*
 have hh3:s₂.heap.push {cls:= .type "list",dict:=none,data:= .seq ([]:List Value).toArray}=s₃.heap:=by rw [<- hs3]
 rw [hh3] at hk₁ hns₁ hce₁ ⊢
 have push3: ∀ b o,s₂.heap.get? b=some o->s₃.heap.get? b=some o:=fun b o e=>by rw [<- hs3];exact qag _ e
 have sz3:s₃.heap.objs.size=D+1:=by rw [<- hs3, <-hD];exact qaL ..
 have fpo: ∀ b∈fp, ∃ o,s₂.heap.get? b=some o/\ ∀ v,o.data≠ .cell v:=T.obj _ _ st2
 have fpD: ∀ b∈fp,b≠D:=fun b hb z=>by
  obtain ⟨o,e,_⟩:=fpo b hb
  have:=qaQ e
  rw [z, <-hD] at this
  exact qaN _ this
 have f3: ∀ b∈fp,ziw X pins (upd H D (.lst [])) b:=fun b hb=>⟨by rw [zaz (fpD b hb)];exact (f2 b hb).1,(f2 b hb).2⟩
 have I4:Inv (cxB X scope N s₃ (upd H D (.lst [])) fp) [] (bStart src σ) (upd H D (.lst [])) {s₃ with heap:=h₁}:=
  zko I3 B f3 (fun b hb=>let ⟨o,e,_⟩:=fpo b hb;⟨o,push3 b o e⟩) hk₁ hns₁ hce₁
 have fB: ∀ {H':Hp},(∀ b∈fp,H' b=none)-> ∀ b∈fp,ziw (cxB X scope N s₃ (upd H D (.lst [])) fp) [] H' b:=fun {H'} hn b hb=>
  ⟨hn b hb,(I4.ok.exf b hb).1,I4.ok.exfs b hb,.inl hb,fun x c e=>(I4.ok.exf b hb).2 x c e,fun p hp=>absurd (show p∈([]:List (Addr×Obj)) from hp) (by simp)⟩
 have stat4: ∀ s',s'=({s₃ with heap:=h₁}:Shared)->codeAny (model X.prog X.w) X.A (.compLoop (.ListComp elt [⟨tg,iter,ifs,0⟩] scope pos) 0 (.ref it) (.ref D) (zoc X.env scope s₃.heap.objs.size)) (RR (.ref D) s₃.heap.objs.size) s':=by
  intro s' es
  refine zg8 (fun n s'=> ∃ i σ' H',Inv (cxB X scope N s₃ (upd H D (.lst [])) fp) [] σ' H' s'/\tn i s'.heap/\(∀ b∈fp,H' b=none)/\W i n σ' H') ?_ m0 ⟨0,_,_,by rw [es];exact I4,by rw [es];exact T.keep _ _ _ st2 fun b hb o e=>hk₁ b o (push3 b o e),fun b hb=>(f3 b hb).1,w0⟩
  rintro n s5 ⟨i,σ5,H5,I5,st5,fr5,w5⟩
  rcases turn i n σ5 H5 w5 with ⟨stop,qn⟩ | ⟨go,Nn,hN,step⟩
  ·refine thn (T.done (cxB X scope N s₃ (upd H D (.lst [])) fp) rfl rfl rfl i [] s5 σ5 H5 _ I5 (fB fr5) st5 stop) fun r s6 ⟨hr,I6⟩=> ?_
   subst hr
   obtain ⟨m,hnC,_⟩:=I6.loc
   have un:=I6.base
   have u2:Un (frs X.stack) fp H H5 s₂.heap s6.heap:=by
    refine Un.trans ?_ un
    have:=Un.laid (fs:=frs X.stack) (ex:=fp) (H:=H) (h:=s₂.heap) (h':=s₃.heap) (a:=D) (o:= .lst []) push3 (Nat.le_of_eq hD) hfresh
    exact this
   refine hRR D _ H5 s6 m (I2.call' (ch:=fp) (by rw [I6.os, <-hs3]) u2 I6.hok I6.bare fun b hb=> ?_) hnC (by rw [sz3];exact Nat.le_succ _) hnC.lt I6.free qn
   obtain ⟨q0,q1,q2,q3,q4,q5⟩:=f2 b hb
   exact ⟨q3,q1,q4,q5⟩
  ·refine thn (T.item (cxB X scope N s₃ (upd H D (.lst [])) fp) rfl rfl rfl i [] s5 σ5 H5 _ I5 (fB fr5) st5 go) fun r s6 ⟨u,hr,h6⟩=> ?_
   subst hr
   refine thn h6 fun _ s7 ⟨x,H7,I7,r7,y7,st7,fr7⟩=> ?_
   have I7':=I7.pinned (fB fr7) (T.obj _ _ st7)
   refine thn (hg _ _ _ _ s7 σ5 H7 x u _ I7' r7 (step x H7 y7)) fun _ s8 ⟨σ8,H8,I8,q8⟩=> ?_
   refine thn (ht _ _ _ _ s8 σ8 H8 _ I8 q8) fun ok s9 ⟨H9,I9,q9⟩=> ?_
   have again: ∀ {σ7:St} {Hz:Hp} {sz:Shared},Inv (cxB X scope N s₃ (upd H D (.lst [])) fp) ([]++zgv fp s7.heap) σ7 Hz sz->Nn σ7 Hz-> ∃ m,m<n/\ ∃ i σ' H',Inv (cxB X scope N s₃ (upd H D (.lst [])) fp) [] σ' H' sz/\tn i sz.heap/\(∀ b∈fp,H' b=none)/\W i m σ' H':=fun {σz Hz sz} Iz nz=>by
    obtain ⟨m',hm,wz⟩:=hN _ _ nz
    refine ⟨m',hm,i+1,_,_,Iz.unpinned,T.keep _ _ _ st7 fun b hb o e=>(Iz.pin (b,o) (qak _ (qak _ (zdd hb e)))).1,fun b hb=> ?_,wz⟩
    obtain ⟨o,e,d⟩:=T.obj _ _ st7 b hb
    exact (Iz.pin (b,o) (qak _ (qak _ (zdd hb e)))).2.1
   cases ok with
   | false=>
    rw [qa5 (by decide)] at q9
    rw [qa5 (by decide)]
    exact again I9 q9
   | true=>
    rw [qa4 rfl] at q9
    rw [qa4 rfl]
    refine thn (he _ _ _ _ s9 σ8 H9 _ I9 q9) fun y s10 ⟨yv,H10,I10,ry,xs,e10,z10,q10⟩=> ?_
    refine thn (zgt (X:=cxB X scope N s₃ (upd H D (.lst [])) fp) _ s10 σ8 H10 (.ref D) [yv] (.ref D) [y] (fun _ Hf=>Nn σ8 Hf) I10 rfl (.cons ry .nil) ⟨D,xs,yv,rfl,rfl,e10,z10,q10⟩) fun _ s11 ⟨_,H11,I11,_,q11⟩=> ?_
    exact again I11 q11
 exact codeAny_compStart_list (stat4 _ (by rw [<- hs3])) (T.self _ 0 _ _ _ (T.keep _ _ _ st2 fun b hb o e=>hk₁ b o (push3 b o e)) (stat4 _ (by rw [<- hs3])))
noncomputable def zoP (wi:TI) (g:TG) (tc:TT) (te:TE) (src:List (Option Nat)):TE:=fun σ H Q=>wi σ H fun J H1=> ∀ D,H1 D=none->zsQ J g tc te (bStart src σ) H1 D fun H'=>Q (.ref D) H'
theorem Inv.letGo {pins:List (Addr×Obj)} {σ:St} {H:Hp} {s:Shared} {C:Addr} {m:Str->Option Value} {h':Heap} (I:Inv X pins σ H s) (hn:s.heap.Ns C m) (hn':H C=none) (hC:X.s₀.heap.objs.size<=C) (hL:C≠X.env.locals) (hp: ∀ p∈X.pn++pins,p.1≠C) (hs:Heap.SameBut C s.heap h'):Inv X pins σ H {s with heap:=h'}:=by
 refine I.turned (t':=s.toks) (it:=C) (fun b o hb e=>(hs.2 b hb).trans e) hn' hL (.inr hC) (fun x c e z=> ?_) hp
 obtain ⟨v,o,ho,hd⟩:=I.cell x c e
 obtain ⟨o',es,ep,ho',hd',_⟩:=hn
 rw [z,ho'] at ho
 cases ho
 rw [hd'] at hd
 cases hd
theorem zoX {wi:TI} {g:TG} {tc:TT} {te:TE} (B:BOk X scope N src) (hi:PI X tg iter wi)
  (hg: ∀ s H fp,PG (cxB X scope N s H fp) tg g) (ht: ∀ s H fp,PCs (cxB X scope N s H fp) ifs tc) (he: ∀ s H fp,PE (cxB X scope N s H fp) elt te)
  (hs: ∀ x,foldedSetIterable iter X.env x=pure x:=by intro _;rfl):PE X (.ListComp elt [⟨tg,iter,ifs,0⟩] scope pos) (zoP wi g tc te src):=by
 intro pins s σ H Q I h
 rw [eval_ListComp]
 refine wpAny_comprehension_free (use:=none) rfl hs (zdF fun x hx e=>I.ok.has x.1 (B.free x hx e)) B.kind B.locs ?_
 refine thn (hi pins s σ H _ I h) fun v s1 h1=>thn h1 fun itv s2 h2=> ?_
 obtain ⟨it,fp,tn,J,H2,e,I2,T,st2,f2,hw⟩:=h2
 subst e
 refine zid (RR:=fun acc C=>compPost (model X.prog X.w) X.A X.xe none (EP X pins σ Q) acc C) (Q:=fun D H'=>Q (.ref D) H') B hg ht he I2 T st2 f2 hw ?_
 intro D C H' s' m I' hn hC hCs hf q
 refine ⟨m,hn,fun h' hs'=>⟨.ref D,H',I'.letGo hn hf (qaS I2.sz hC) (fun z=> ?_) (fun p hp z=> ?_) hs',rfl,q⟩⟩
 ·exact qaN _ (qaw (z▸I2.lt) hC)
 ·have:=qaQ (I2.pin p hp).1
  rw [z] at this
  exact qaN _ (qaw this hC)
theorem zjc {wi:TI} {g:TG} {tc:TT} {te:TE} {i:Nat} {y:Str} {py spos:Pos} (B:BOk X scope N src) (hi:PI X tg iter wi)
  (hg: ∀ s H fp,PG (cxB X scope N s H fp) tg g) (ht: ∀ s H fp,PCs (cxB X scope N s H fp) ifs tc) (he: ∀ s H fp,PE (cxB X scope N s H fp) elt te)
  (hN:X.N.Nodup) (hy:X.N[i]? = some y) (hx:Loc X.env.scope y) (hsw:swapsWith (.ListComp elt [⟨tg,iter,ifs,0⟩] scope pos) (some (.Name y py)) spos.line X.env=pure true)
  (hf:X.fn y=true\/X.env.scope.names.lookup y=some .local:=by first | exact .inl rfl | exact .inr rfl | assumption)
  (hs: ∀ x,foldedSetIterable iter X.env x=pure x:=by intro _;rfl):PS X (.Assign [.Name y py] (.ListComp elt [⟨tg,iter,ifs,0⟩] scope pos) spos) (zsL (zoP wi g tc te src) (zoK i)):=by
 intro pins s σ H D0 I h
 rw [exec_Assign_Name_used _ _ _ _ hsw]
 refine qaW (wpAny_standAt (qaW ?_))
 show wpAny _ X.A (do let _<-comprehension (.ListComp elt [⟨tg,iter,ifs,0⟩] scope pos) scope X.env _ (newList []) false (eval iter X.env) (some (assign (.Name y py) X.env))) _ _ s
 refine qaW (qaZ (wpAny_comprehension_free (use:=some (assign (.Name y py) X.env)) (Q:=fun _ s'=>SP X pins D0 .next s') rfl hs (zdF fun x hx e=>I.ok.has x.1 (B.free x hx e)) B.kind B.locs ?_)
   (fun _ s' hq=>qaX (qaX hq)) fun _ _ e=>e)
 refine thn (hi pins s σ H _ I h) fun v s1 h1=>thn h1 fun itv s2 h2=> ?_
 obtain ⟨it,fp,tn,J,H2,e,I2,T,st2,f2,hw⟩:=h2
 subst e
 refine zid (RR:=fun acc C=>compPost (model X.prog X.w) X.A X.xe (some (assign (.Name y py) X.env)) (fun _ s'=>SP X pins D0 .next s') acc C) (Q:=fun D H'=>D0.nx (σ.set i (some (.ref D))) H') B hg ht he I2 T st2 f2 hw ?_
 intro D C H' s' m I' hn hC hCs hf' q
 show wpAny _ X.A (assign (.Name y py) X.env (.ref D)) _ _ _
 have hCL:C≠X.env.locals:=fun z=>qaN _ (qaw (z▸I2.lt) hC)
 have hCp: ∀ p∈X.pn++pins,p.1≠C:=fun p hp z=>by
  have:=qaQ (I2.pin p hp).1
  rw [z] at this
  exact qaN _ (qaw this hC)
 have hCc: ∀ x c,X.env.cells.lookup x=some c->c≠C:=fun x c e z=>by
  obtain ⟨v,hv⟩:=I2.cell x c e
  exact qaN _ (qaw (z▸hv.lt) hC)
 obtain ⟨oC,es,ep,hoC,hdC,hrest⟩:=hn
 have hCfs:C∉X.fs:=I2.nofs hC
 have Ip:Inv X (pins++[(C,oC)]) σ H' s':=I'.pins_of fun p hp=>by
  rcases qaK.mp hp with z | z
  ·exact I'.pin p (qak _ z)
  ·obtain rfl:p=(C,oC):=by simpa using z
   exact ⟨hoC,hf',hCL,hCfs,fun v z=>by have z':=hdC.symm.trans z;cases z'⟩
 refine wpAny_assign_Name (zdH Ip hN hy hx (v:= .ref D) rfl (fun s3 I3=> ?_) hf)
 have hC3:=(I3.pin (C,oC) (by simp)).1
 refine ⟨m,⟨oC,es,ep,hC3,hdC,hrest⟩,fun h' hs'=> ?_⟩
 exact ⟨_,H',(I3.unpinned).letGo ⟨oC,es,ep,hC3,hdC,hrest⟩ hf' (qaS I2.sz hC) hCL hCp hs',q⟩
end
end L2
namespace L3
open PySem PySem.Spec PyProof.Rows L2
inductive D where
 | non | bl (b:Bool) | int (i:Int) | str (x:Str) | tup (xs:List D) | lst (xs:List D) | cel (n:Nat) | set (xs:List Int) | dct | fn (a:Addr) | scr (xs:List D) | exn (c:String)
inductive C where
 | lst (xs:List D) | dic (kvs:List (Int×D)) | dead
noncomputable abbrev Hh:=List C
structure Io where
 c:List (Option Addr)
 x:List Addr
def Io.Has (ι:Io) (a:Addr):Prop:=some a∈ι.c\/a∈ι.x
inductive R (α:Type) where
 | ok (a:α) (h:Hh) | exc (c:String) (h:Hh) | bad
noncomputable def M (α:Type):=Hh->R α
@[inline] noncomputable def M.bind {α β:Type} (m:M α) (f:α->M β):M β:=fun h=>match m h with
 | .ok a h'=>f a h'
 | .exc c h'=> .exc c h'
 | .bad=> .bad
@[inline] noncomputable def M.pure {α:Type} (a:α):M α:=fun h=> .ok a h
noncomputable instance:Monad M where
 pure:=M.pure
 bind:=M.bind
noncomputable def M.bad {α:Type}:M α:=fun _=> .bad
def KL (K:W.Frag) (a:Addr) (xs:List V):Prop:=SqL K (fun _=>none) a xs
mutual
noncomputable def Rel (K:W.Frag) (ι:Io) (H:Hp):D->V->Prop
 | .non,v=>v= .non
 | .bl b,v=>v= .bl b
 | .int i,v=>v= .int i
 | .str x,v=>v= .str x
 | .tup ds,v=> ∃ a vs,v= .ref a/\(H a=some (.tup vs)/\ ¬ι.Has a)/\zat K ι H ds vs
 | .lst ds,v=> ∃ a vs,v= .ref a/\(H a=some (.lst vs)/\ ¬ι.Has a)/\zat K ι H ds vs
 | .scr ds,v=> ∃ a vs,v= .ref a/\((Rd H a (.lst vs)/\ ¬ι.Has a)\/KL K a vs)/\zat K ι H ds vs
 | .cel n,v=> ∃ a,v= .ref a/\(ι.c[n]? = some (some a)\/ι.c[n]? = some none)
 | .set xs,v=> ∃ a,v= .ref a/\H a=some (.set (fun k=>xs.any (· == k)) xs.length)/\ ¬ι.Has a
 | .dct,v=> ∃ a,v= .ref a/\H a=some (.dK [])/\ ¬ι.Has a
 | .fn a,v=>v= .ref a
 | .exn c,v=> ∃ a o C head vs,v= .ref a/\(H a=some (.frz o (.own 0))/\ ¬ι.Has a)/\W.nsIn K mainGlobals (c:Str)=some (some (.ref C))/\o.cls= .ref C/\o.dict=none/\o.data= .fields vs/\vs[2]? = some .none/\vs[1]? = some head
noncomputable def zat (K:W.Frag) (ι:Io) (H:Hp):List D->List V->Prop
 | [],vs=>vs=[]
 | d::ds,vs=> ∃ v r,vs=v::r/\Rel K ι H d v/\zat K ι H ds r
end
structure zbJ (ι:Io) (H:Hp) (ι':Io) (H':Hp):Prop where
 old: ∀ (n:Nat) (o:Option Addr),ι.c[n]? = some o->ι'.c[n]? = some o\/ι'.c[n]? = some none
 new: ∀ a,some a∈ι'.c->some a∈ι.c\/H a=none
 hid:ι'.x=ι.x
 hidk: ∀ a∈ι.x,H' a=H a
 keep: ∀ b o,H b=some o-> ¬ι.Has b->H' b=some o
theorem zbJ.refl (ι:Io) (H:Hp):zbJ ι H ι H:=⟨fun _ _ h=> .inl h,fun _ h=> .inl h,rfl,fun _ _=>rfl,fun _ _ h _=>h⟩
theorem zbJ.nin {ι ι':Io} {H H':Hp} (s:zbJ ι H ι' H') {a:Addr} {o:HO} (h:H a=some o) (n: ¬ι.Has a): ¬ι'.Has a:=fun z=>by
 rcases z with z | z
 ·rcases s.new a z with z | z
  ·exact n (.inl z)
  ·rw [h] at z;cases z
 ·rw [s.hid] at z;exact n (.inr z)
theorem zbJ.trans {ι ι1 ι2:Io} {H H1 H2:Hp} (s:zbJ ι H ι1 H1) (t:zbJ ι1 H1 ι2 H2):zbJ ι H ι2 H2 where
 old:=fun n o h=>by
  rcases s.old n o h with h | h
  ·exact t.old n o h
  ·rcases t.old n _ h with h | h<;>exact .inr h
 new:=fun a h=>by
  rcases t.new a h with h | h
  ·exact s.new a h
  ·by_cases z:some a∈ι.c
   ·exact .inl z
   ·refine .inr ?_
    cases q:H a with
    | none=>rfl
    | some o=>
     by_cases z':a∈ι.x
     ·rw [s.hidk a z',q] at h;cases h
     ·rw [s.keep a o q (fun w=>w.elim z z')] at h;cases h
 hid:=t.hid.trans s.hid
 hidk:=fun a h=>(t.hidk a (by rw [s.hid];exact h)).trans (s.hidk a h)
 keep:=fun b o h n=>t.keep b o (s.keep b o h n) (s.nin h n)
theorem zbJ.rd {ι ι':Io} {H H':Hp} (s:zbJ ι H ι' H') {a:Addr} {u:HO} (h:Rd H a u) (n: ¬ι.Has a):Rd H' a u/\ ¬ι'.Has a:=by
 rcases h with h | ⟨o,h⟩
 ·exact ⟨.inl (s.keep _ _ h n),s.nin h n⟩
 ·exact ⟨.inr ⟨o,s.keep _ _ h n⟩,s.nin h n⟩
structure Pass (ι:Io) (H:Hp) (ι':Io) (H':Hp):Prop where
 old: ∀ (n:Nat) (o:Option Addr),ι.c[n]? = some o->ι'.c[n]? = some o\/ι'.c[n]? = some none
 keep: ∀ b o,H b=some o-> ¬ι.Has b->H' b=some o/\ ¬ι'.Has b
theorem zbJ.pass {ι ι':Io} {H H':Hp} (s:zbJ ι H ι' H'):Pass ι H ι' H':=⟨s.old,fun b o h n=>⟨s.keep b o h n,s.nin h n⟩⟩
theorem Pass.rd {ι ι':Io} {H H':Hp} (s:Pass ι H ι' H') {a:Addr} {u:HO} (h:Rd H a u) (n: ¬ι.Has a):Rd H' a u/\ ¬ι'.Has a:=by
 rcases h with h | ⟨o,h⟩
 ·exact ⟨.inl (s.keep _ _ h n).1,(s.keep _ _ h n).2⟩
 ·exact ⟨.inr ⟨o,(s.keep _ _ h n).1⟩,(s.keep _ _ h n).2⟩
section
variable {K:W.Frag} {ι ι':Io} {H H':Hp}
mutual
theorem Rel.pass (s:Pass ι H ι' H'): ∀ {d:D} {v:V},Rel K ι H d v->Rel K ι' H' d v
 | .non,_,h=>by simpa [Rel] using h
 | .bl _,_,h=>by simpa [Rel] using h
 | .int _,_,h=>by simpa [Rel] using h
 | .str _,_,h=>by simpa [Rel] using h
 | .tup ds,v,h=>by
  simp only [Rel] at h ⊢
  obtain ⟨a,vs,e,h1,h2⟩:=h
  exact ⟨a,vs,e,s.keep _ _ h1.1 h1.2,zat.pass s h2⟩
 | .lst ds,v,h=>by
  simp only [Rel] at h ⊢
  obtain ⟨a,vs,e,h1,h2⟩:=h
  exact ⟨a,vs,e,s.keep _ _ h1.1 h1.2,zat.pass s h2⟩
 | .scr ds,v,h=>by
  simp only [Rel] at h ⊢
  obtain ⟨a,vs,e,h1,h2⟩:=h
  exact ⟨a,vs,e,h1.imp (fun z=>s.rd z.1 z.2) id,zat.pass s h2⟩
 | .cel n,v,h=>by
  simp only [Rel] at h ⊢
  obtain ⟨a,e,h⟩:=h
  refine ⟨a,e,?_⟩
  rcases h with h | h
  ·exact s.old n _ h
  ·rcases s.old n _ h with h | h<;>exact .inr h
 | .set xs,v,h=>by
  simp only [Rel] at h ⊢
  obtain ⟨a,e,h,n⟩:=h
  exact ⟨a,e,(s.keep _ _ h n).1,(s.keep _ _ h n).2⟩
 | .dct,v,h=>by
  simp only [Rel] at h ⊢
  obtain ⟨a,e,h,n⟩:=h
  exact ⟨a,e,(s.keep _ _ h n).1,(s.keep _ _ h n).2⟩
 | .fn _,_,h=>by simpa [Rel] using h
 | .exn _,_,h=>by
  simp only [Rel] at h ⊢
  obtain ⟨a,o,C,head,vs,e,h1,h2⟩:=h
  exact ⟨a,o,C,head,vs,e,s.keep _ _ h1.1 h1.2,h2⟩
theorem zat.pass (s:Pass ι H ι' H'): ∀ {ds:List D} {vs:List V},zat K ι H ds vs->zat K ι' H' ds vs
 | [],_,h=>by simpa [zat] using h
 | d::ds,_,h=>by
  simp only [zat] at h ⊢
  obtain ⟨v,r,e,h1,h2⟩:=h
  exact ⟨v,r,e,Rel.pass s h1,zat.pass s h2⟩
end
theorem Rel.step (s:zbJ ι H ι' H') {d:D} {v:V} (h:Rel K ι H d v):Rel K ι' H' d v:=h.pass s.pass
theorem zat.step (s:zbJ ι H ι' H') {ds:List D} {vs:List V} (h:zat K ι H ds vs):zat K ι' H' ds vs:=h.pass s.pass
theorem zat.nil:zat K ι H [] []:=by simp [zat]
theorem zat.cons {d:D} {ds:List D} {v:V} {vs:List V} (h:Rel K ι H d v) (t:zat K ι H ds vs):zat K ι H (d::ds) (v::vs):=by simp only [zat];exact ⟨v,vs,rfl,h,t⟩
theorem zat.length: ∀ {ds:List D} {vs:List V},zat K ι H ds vs->ds.length=vs.length
 | [],_,h=>by simp only [zat] at h;subst h;rfl
 | d::ds,_,h=>by
  simp only [zat] at h
  obtain ⟨v,r,rfl,_,h⟩:=h
  simp [zat.length h]
theorem zat.get: ∀ {ds:List D} {vs:List V} {i:Nat} {d:D},zat K ι H ds vs->ds[i]? = some d-> ∃ v,vs[i]? = some v/\Rel K ι H d v
 | [],_,_,_,_,e=>by simp at e
 | d::ds,_,i,x,h,e=>by
  simp only [zat] at h
  obtain ⟨v,r,rfl,h1,h2⟩:=h
  cases i with
  | zero=>simp at e;subst e;exact ⟨v,rfl,h1⟩
  | succ i=>simp at e;simpa using zat.get h2 e
theorem zat.getV: ∀ {ds:List D} {vs:List V} {i:Nat} {v:V},zat K ι H ds vs->vs[i]? = some v-> ∃ d,ds[i]? = some d/\Rel K ι H d v
 | [],_,_,_,h,e=>by simp only [zat] at h;subst h;simp at e
 | d::ds,_,i,x,h,e=>by
  simp only [zat] at h
  obtain ⟨v,r,rfl,h1,h2⟩:=h
  cases i with
  | zero=>simp at e;subst e;exact ⟨d,rfl,h1⟩
  | succ i=>simp at e;simpa using zat.getV h2 e
theorem zat.append: ∀ {ds es:List D} {vs ws:List V},zat K ι H ds vs->zat K ι H es ws->zat K ι H (ds++es) (vs++ws)
 | [],_,_,_,h,t=>by simp only [zat] at h;subst h;exact t
 | d::ds,es,_,ws,h,t=>by
  simp only [zat] at h
  obtain ⟨v,r,rfl,h1,h2⟩:=h
  exact zat.cons h1 (zat.append h2 t)
theorem zat.take: ∀ {ds:List D} {vs:List V} (n:Nat),zat K ι H ds vs->zat K ι H (ds.take n) (vs.take n)
 | _,_,0,_=>by simpa using zat.nil
 | [],_,n+1,h=>by simp only [zat] at h;subst h;exact zat.nil
 | d::ds,_,n+1,h=>by
  simp only [zat] at h
  obtain ⟨v,r,rfl,h1,h2⟩:=h
  exact zat.cons h1 (zat.take n h2)
theorem zat.drop: ∀ {ds:List D} {vs:List V} (n:Nat),zat K ι H ds vs->zat K ι H (ds.drop n) (vs.drop n)
 | _,_,0,h=>h
 | [],_,n+1,h=>by simp only [zat] at h;subst h;exact zat.nil
 | d::ds,_,n+1,h=>by
  simp only [zat] at h
  obtain ⟨v,r,rfl,h1,h2⟩:=h
  exact zat.drop n h2
theorem zat.reverse {ds:List D} {vs:List V} (h:zat K ι H ds vs):zat K ι H ds.reverse vs.reverse:=by
 induction ds generalizing vs with
 | nil=>simp only [zat] at h;subst h;exact zat.nil
 | cons d ds ih=>
  simp only [zat] at h
  obtain ⟨v,r,rfl,h1,h2⟩:=h
  rw [List.reverse_cons,List.reverse_cons]
  exact zat.append (ih h2) (zat.cons h1 zat.nil)
theorem zat.set {d:D} {v:V} (hd:Rel K ι H d v): ∀ {ds:List D} {vs:List V} (i:Nat),zat K ι H ds vs->zat K ι H (ds.set i d) (vs.set i v)
 | [],_,_,h=>by simp only [zat] at h;subst h;exact zat.nil
 | x::ds,_,i,h=>by
  simp only [zat] at h
  obtain ⟨w,r,rfl,h1,h2⟩:=h
  cases i with
  | zero=>exact zat.cons hd h2
  | succ i=>exact zat.cons h1 (zat.set hd i h2)
theorem zc0: ∀ {is:List Int} {vs:List V},zat K ι H (is.map D.int) vs↔vs=is.map V.int
 | [],vs=>by simp [zat]
 | i::is,vs=>by
  simp only [qaM,zat]
  constructor
  ·rintro ⟨v,r,rfl,h1,h2⟩
   simp only [Rel] at h1
   rw [h1,zc0.mp h2]
  ·rintro rfl
   exact ⟨_,_,rfl,by simp [Rel],zc0.mpr rfl⟩
noncomputable def CO (K:W.Frag) (ι:Io) (H:Hp):C->HO->Prop
 | .lst ds,o=> ∃ vs,o= .lst vs/\zat K ι H ds vs
 | .dic kvs,o=> ∃ vs,o= .dK vs/\Paired (fun (p:Int×D) (q:Key×V)=>q.1= .inl p.1/\Rel K ι H p.2 q.2) kvs vs
 | .dead,_=>False
theorem CO.pass {c:C} {o:HO} (s:Pass ι H ι' H') (h:CO K ι H c o):CO K ι' H' c o:=by
 cases c with
 | lst ds=>obtain ⟨vs,e,r⟩:=h;exact ⟨vs,e,r.pass s⟩
 | dic kvs=>
  obtain ⟨vs,e,r⟩:=h
  refine ⟨vs,e,?_⟩
  clear e
  induction r with
  | nil=>exact .nil
  | cons a t ih=>exact .cons ⟨a.1,a.2.pass s⟩ ih
 | dead=>exact h
structure za9 (K:W.Frag) (ι:Io) (H:Hp) (h:Hh):Prop where
 len:h.length=ι.c.length
 inj: ∀ (m n:Nat) (a:Addr),ι.c[m]? = some (some a)->ι.c[n]? = some (some a)->m=n
 at_: ∀ (n:Nat) (a:Addr) (c:C),ι.c[n]? = some (some a)->h[n]? = some c-> ∃ o,H a=some o/\CO K ι H c o
 dead: ∀ (n:Nat),ι.c[n]? = some none->h[n]? = some .dead
 hidt: ∀ a∈ι.x,(∃ o,H a=some o)/\some a∉ι.c
noncomputable abbrev Sd:=List (Option D)
def zcF (K:W.Frag) (ι:Io) (H:Hp) (sd:Sd) (σ:L2.St):Prop:=sd.length=σ.length/\ ∀ (i:Nat) (d:D),sd[i]? = some (some d)-> ∃ v,σ[i]? = some (some v)/\Rel K ι H d v
theorem zcF.pass {sd:Sd} {σ:L2.St} (s:Pass ι H ι' H') (h:zcF K ι H sd σ):zcF K ι' H' sd σ:=⟨h.1,fun i d e=>let ⟨v,h1,h2⟩:=h.2 i d e;⟨v,h1,h2.pass s⟩⟩
theorem zcF.step {sd:Sd} {σ:L2.St} (s:zbJ ι H ι' H') (h:zcF K ι H sd σ):zcF K ι' H' sd σ:=⟨h.1,fun i d e=>let ⟨v,h1,h2⟩:=h.2 i d e;⟨v,h1,h2.step s⟩⟩
theorem zcF.set {sd:Sd} {σ:L2.St} {d:D} {v:V} (h:zcF K ι H sd σ) (r:Rel K ι H d v) (i:Nat):zcF K ι H (sd.set i (some d)) (σ.set i (some v)):=by
 refine ⟨by rw [qaI,qaI];exact h.1,fun j d' e=> ?_⟩
 by_cases hij:i=j
 ·subst hij
  by_cases hl:i<sd.length
  ·rw [qai hl] at e
   cases e
   exact ⟨v,by rw [qai (by rw [<- h.1];exact hl)],r⟩
  ·rw [List.getElem?_eq_none (by rw [qaI];omega)] at e
   cases e
 ·rw [qao hij] at e ⊢
  exact h.2 j d' e
end
noncomputable abbrev St:=L2.St
noncomputable abbrev XE:=String->Hp->Prop
def Fin {α:Type} (K:W.Frag) (E:XE) (ι:Io) (H:Hp) (r:R α) (P:α->Io->Hp->Prop):Prop:=match r with
 | .ok a h'=> ∀ ι' H',zbJ ι H ι' H'->za9 K ι' H' h'->P a ι' H'
 | .exc c h'=> ∀ ι' H',zbJ ι H ι' H'->za9 K ι' H' h'->E c H'
 | .bad=>False
section
variable {α β:Type} {K:W.Frag} {E:XE} {ι ι':Io} {H H':Hp}
theorem Fin.step {r:R α} {P:α->Io->Hp->Prop} (s:zbJ ι H ι' H') (h:Fin K E ι H r P):Fin K E ι' H' r P:=by
 cases r with
 | ok a h'=>exact fun ι2 H2 t hr=>h ι2 H2 (s.trans t) hr
 | exc c h'=>exact fun ι2 H2 t hr=>h ι2 H2 (s.trans t) hr
 | bad=>exact h
theorem Fin.mono {r:R α} {P P':α->Io->Hp->Prop} (h:Fin K E ι H r P) (m: ∀ a ι' H',P a ι' H'->P' a ι' H'):Fin K E ι H r P':=by
 cases r with
 | ok a h'=>exact fun ι2 H2 t hr=>m _ _ _ (h ι2 H2 t hr)
 | exc c h'=>exact h
 | bad=>exact h
theorem Fin.bind {m:M α} {f:α->M β} {h:Hh} {P:β->Io->Hp->Prop} {P':α->Io->Hp->Prop} (q:Fin K E ι H ((m>>=f) h) P)
  (k: ∀ a h' ι' H',m h= .ok a h'->zbJ ι H ι' H'->za9 K ι' H' h'->Fin K E ι' H' (f a h') P->P' a ι' H'):Fin K E ι H (m h) P':=by
 have q':Fin K E ι H (M.bind m f h) P:=q
 unfold M.bind at q'
 cases e:m h with
 | ok a h'=>
  rw [e] at q'
  intro ι' H' s hr
  exact k a h' ι' H' e s hr (Fin.step s q')
 | exc c h'=>rw [e] at q';exact q'
 | bad=>rw [e] at q';exact q'
theorem Fin.out {a:α} {h:Hh} {P:α->Io->Hp->Prop} (hr:za9 K ι H h) (q:Fin K E ι H ((pure a:M α) h) P):P a ι H:=q ι H (zbJ.refl _ _) hr
end
noncomputable def zjr (K:W.Frag) (E:XE) (f:Sd->M D):TE:=fun σ H Q=> ∃ ι h sd,zcF K ι H sd σ/\za9 K ι H h/\Fin K E ι H (f sd h) fun d ι' H'=> ∀ v,Rel K ι' H' d v->Q v H'
noncomputable def zfG (K:W.Frag) (E:XE) (f:Sd->M Bool):TT:=fun σ H Q=> ∃ ι h sd,zcF K ι H sd σ/\za9 K ι H h/\Fin K E ι H (f sd h) fun b ι' H'=>Q b H'
noncomputable def zr5 (K:W.Frag) (E:XE) (f:Sd->M (List D)):TA:=fun σ H Q=> ∃ ι h sd,zcF K ι H sd σ/\za9 K ι H h/\Fin K E ι H (f sd h) fun ds ι' H'=> ∀ vs,zat K ι' H' ds vs->Q vs H'
noncomputable abbrev SE (X:Cx) (E:XE) (e:Expr) (f:Sd->M D):Prop:=PE X e (zjr X.K E f)
noncomputable abbrev ST (X:Cx) (E:XE) (e:Expr) (f:Sd->M Bool):Prop:=PT X e (zfG X.K E f)
noncomputable abbrev SA (X:Cx) (E:XE) (es:List Expr) (f:Sd->M (List D)):Prop:=PA X es (zr5 X.K E f)
noncomputable def zdr (K:W.Frag) (E:XE) (F:D->D->M D):R2:=fun x y H Q=> ∃ ι h d1 d2,Rel K ι H d1 x/\Rel K ι H d2 y/\za9 K ι H h/\Fin K E ι H (F d1 d2 h) fun d ι' H'=> ∀ v,Rel K ι' H' d v->Q v H'
noncomputable def zhs (K:W.Frag) (E:XE) (F:List D->M D):List V->Hp->VK->Prop:=fun xs H Q=> ∃ ι h ds,zat K ι H ds xs/\za9 K ι H h/\Fin K E ι H (F ds h) fun d ι' H'=> ∀ v,Rel K ι' H' d v->Q v H'
theorem PE.imp {X:Cx} {e:Expr} {t t':TE} (h:PE X e t) (m: ∀ σ H Q,t' σ H Q->t σ H Q):PE X e t':=fun pins s σ H Q I q=>h pins s σ H Q I (m _ _ _ q)
theorem PT.imp {X:Cx} {e:Expr} {t t':TT} (h:PT X e t) (m: ∀ σ H Q,t' σ H Q->t σ H Q):PT X e t':=fun pins s σ H Q I q=>h pins s σ H Q I (m _ _ _ q)
theorem PA.imp {X:Cx} {e:List Expr} {t t':TA} (h:PA X e t) (m: ∀ σ H Q,t' σ H Q->t σ H Q):PA X e t':=fun pos pins s σ H Q I q=>h pos pins s σ H Q I (m _ _ _ q)
theorem OpR.imp {X:Cx} {f:Value->Value->Sem Value} {r r':R2} (h:OpR X f r) (m: ∀ x y H Q,r' x y H Q->r x y H Q):OpR X f r':=fun pins s σ H x y v u Q I rx ry q=>h pins s σ H x y v u Q I rx ry (m _ _ _ _ q)
theorem zaM.imp {X:Cx} {f:Value} {r r':List V->Hp->VK->Prop} (h:zaM X f r) (m: ∀ xs H Q,r' xs H Q->r xs H Q):zaM X f r':=by
 intro pins s σ H xs us Q I rx q
 exact h pins s σ H xs us Q I rx (m _ _ _ q)
theorem IxR.imp {X:Cx} {r r':R2} (h:IxR X r) (m: ∀ x y H Q,r' x y H Q->r x y H Q):IxR X r':=by
 intro value slice pins s σ H x y v u Q I rx ry q hs
 exact h value slice pins s σ H x y v u Q I rx ry (m _ _ _ _ q) hs
theorem MtM.imp {X:Cx} {id:String} {r r':V->List V->Hp->VK->Prop} (h:MtM X id r) (m: ∀ x xs H Q,r' x xs H Q->r x xs H Q):MtM X id r':=fun pins s σ H x xs v us Q I rx rs q=>h pins s σ H x xs v us Q I rx rs (m _ _ _ _ q)
theorem SlR.imp {X:Cx} {r r':V->Option Int->Option Int->Hp->VK->Prop} (h:SlR X r) (m: ∀ x l u H Q,r' x l u H Q->r x l u H Q):SlR X r':=fun pins s σ H x v vl vu lo hi sl Q I rx hs pl pu q=>h pins s σ H x v vl vu lo hi sl Q I rx hs pl pu (m _ _ _ _ _ q)
theorem zoU.imp {X:Cx} {r r':zpq} (h:zoU X r) (m: ∀ o i v H Q,r' o i v H Q->r o i v H Q):zoU X r':=fun pins s σ H o i v ov iv u Q I ro ri rv q=>h pins s σ H o i v ov iv u Q I ro ri rv (m _ _ _ _ _ q)
theorem PI.imp {X:Cx} {tg iter:Expr} {t t':TI} (h:PI X tg iter t) (m: ∀ σ H Q,t' σ H Q->t σ H Q):PI X tg iter t':=fun pins s σ H Q I q=>h pins s σ H Q I (m _ _ _ q)
theorem PG.imp {X:Cx} {tg:Expr} {t t':TG} (h:PG X tg t) (m: ∀ v σ H Q,t' v σ H Q->t v σ H Q):PG X tg t':=fun pins s σ H v u Q I r q=>h pins s σ H v u Q I r (m _ _ _ _ q)
theorem PS.imp {X:Cx} {st:Stmt} {t t':TS} (h:PS X st t) (m: ∀ D σ H,t' D σ H->t D σ H):PS X st t':=fun pins s σ H D I q=>h pins s σ H D I (m _ _ _ q)
theorem PSs.imp {X:Cx} {st:List Stmt} {t t':TS} (h:PSs X st t) (m: ∀ D σ H,t' D σ H->t D σ H):PSs X st t':=fun pins s σ H D I q=>h pins s σ H D I (m _ _ _ q)
section
variable {X:Cx} {E:XE} {a b e:Expr} {es:List Expr} {pos:Pos} {fa fb:Sd->M D}
theorem te2 {K:W.Frag} {F:D->D->M D} {r:R2} (hr: ∀ x y H Q,zdr K E F x y H Q->r x y H Q) (σ:St) (H:Hp) (Q:VK) (q:zjr K E (fun sd=>do let x<-fa sd;let y<-fb sd;F x y) σ H Q):tOp r (zjr K E fa) (zjr K E fb) σ H Q:=by
 obtain ⟨ι,h,sd,L,hh,q⟩:=q
 refine ⟨ι,h,sd,L,hh,Fin.bind q fun d1 h1 ι1 H1 e1 s1 hr1 q1 v r1=> ?_⟩
 refine ⟨ι1,h1,sd,L.step s1,hr1,Fin.bind q1 fun d2 h2 ι2 H2 e2 s2 hr2 q2 w r2=> ?_⟩
 exact hr _ _ _ _ ⟨ι2,h2,d1,d2,r1.step s2,r2,hr2,q2⟩
theorem zsb {op:Operator} {F:D->D->M D} (ho:OpR X (binaryOp op) (zdr X.K E F)) (ha:SE X E a fa) (hb:SE X E b fb):SE X E (.BinOp a op b pos) (fun sd=>do let x<-fa sd;let y<-fb sd;F x y):=
 PE.imp (zsw ho ha hb) (te2 fun _ _ _ _ q=>q)
theorem zrk {op:CmpOp} {F:D->D->M D} (ho:OpR X (compareOp op) (zdr X.K E F)) (ha:SE X E a fa) (hb:SE X E b fb) (hm:behindInMarks op b=false):SE X E (.Compare a [op] [b] pos) (fun sd=>do let x<-fa sd;let y<-fb sd;F x y):=
 PE.imp (zn3 ho ha hb hm) (te2 fun _ _ _ _ q=>q)
theorem zq7 {F:D->D->M D} (ho:IxR X (zdr X.K E F)) (ha:SE X E a fa) (hb:SE X E b fb) (hs:zeN b):SE X E (.Subscript a b pos) (fun sd=>do let x<-fa sd;let y<-fb sd;F x y):=
 PE.imp (zqc ho ha hb hs) (te2 fun _ _ _ _ q=>q)
noncomputable def zdk:D->M Bool
 | .bl b=>pure b
 | _=>M.bad
theorem zfP {K:W.Frag} {f:Sd->M D} (σ:St) (H:Hp) (Q:Bool->Hp->Prop) (q:zfG K E (fun sd=>do let x<-f sd;zdk x) σ H Q):(zjr K E f) σ H fun x H1=> ∃ c,x= .bl c/\Q c H1:=by
 obtain ⟨ι,h,sd,L,hh,q⟩:=q
 refine ⟨ι,h,sd,L,hh,Fin.bind q fun d1 h1 ι1 H1 e1 s1 hr1 q2 v r1=> ?_⟩
 cases d1 with
 | bl b=>simp only [Rel] at r1;exact ⟨b,r1,Fin.out hr1 q2⟩
 | _=>exact qa0 q2
theorem zps {op:CmpOp} {F:D->D->M D} (ho:OpR X (compareOp op) (zdr X.K E F)) (ha:SE X E a fa) (hb:SE X E b fb) (hm:behindInMarks op b=false):
  ST X E (.Compare a [op] [b] pos) (fun sd=>do let z<-(do let x<-fa sd;let y<-fb sd;F x y);zdk z):=by
 refine PT.imp (zok ho ha hb hm) fun σ H Q q=> ?_
 have q1:=zfP (f:=fun sd=>do let x<-fa sd;let y<-fb sd;F x y) σ H Q q
 exact te2 (fun _ _ _ _ q=>q) σ H _ q1
theorem zp9 {f:Sd->M D} (h:SE X E e f) (he: ∀ whole,isTrue e X.env whole=(do let v<-whole;standAt e.pos;holding [v] (truthy v)):=by intro _;rfl):ST X E e (fun sd=>do let x<-f sd;zdk x):=
 PT.imp (zqv h he) fun σ H Q q=>zfP σ H Q q
theorem zqp {t:Sd->M Bool} (ha:ST X E a t):ST X E (.UnaryOp .Not a pos) (fun sd=>do let c<-t sd;pure (!c)):=by
 refine PT.imp (zqd ha) fun σ H Q ⟨ι,h,sd,L,hh,q⟩=>⟨ι,h,sd,L,hh,Fin.bind q fun c h1 ι1 H1 e1 s1 hr1 q1=> ?_⟩
 exact Fin.out hr1 q1
theorem zn1 {t:Sd->M Bool} (ha:ST X E a t):PW X (.BoolOp .And [a] pos) (zfG X.K E t):=pw_and1 ha
theorem zqi {t:Sd->M Bool} (ha:ST X E a t):PW X (.BoolOp .Or [a] pos) (zfG X.K E t):=pw_or1 ha
theorem PW.imp {t t':TT} (h:PW X e t) (m: ∀ σ H Q,t' σ H Q->t σ H Q):PW X e t':=fun whole pins s σ H Q I q=>h whole pins s σ H Q I (m _ _ _ q)
theorem zrj {rest:List Expr} {t u:Sd->M Bool} (ha:ST X E a t) (hb:PW X (.BoolOp .And (b::rest) pos) (zfG X.K E u)):PW X (.BoolOp .And (a::b::rest) pos) (zfG X.K E fun sd=>do let c<-t sd;if c=true then u sd else pure false):=by
 refine PW.imp (pw_and ha hb) fun σ H Q ⟨ι,h,sd,L,hh,q⟩=>⟨ι,h,sd,L,hh,Fin.bind q fun c h1 ι1 H1 e1 s1 hr1 q1=> ?_⟩
 cases c with
 | true=>exact zpj ⟨ι1,h1,sd,L.step s1,hr1,q1⟩
 | false=>exact zpe (Fin.out hr1 q1)
theorem zsc {rest:List Expr} {t u:Sd->M Bool} (ha:ST X E a t) (hb:PW X (.BoolOp .Or (b::rest) pos) (zfG X.K E u)):PW X (.BoolOp .Or (a::b::rest) pos) (zfG X.K E fun sd=>do let c<-t sd;if c=true then pure true else u sd):=by
 refine PW.imp (pw_or ha hb) fun σ H Q ⟨ι,h,sd,L,hh,q⟩=>⟨ι,h,sd,L,hh,Fin.bind q fun c h1 ι1 H1 e1 s1 hr1 q1=> ?_⟩
 cases c with
 | false=>exact zpe ⟨ι1,h1,sd,L.step s1,hr1,q1⟩
 | true=>exact zpj (Fin.out hr1 q1)
theorem zou {op:BoolOp} {vs:List Expr} {t:Sd->M Bool} (h:PW X (.BoolOp op vs pos) (zfG X.K E t)):ST X E (.BoolOp op vs pos) t:=h.pt
theorem zpI {op:BoolOp} (h:SE X E a fa):SE X E (.BoolOp op [a] pos) fa:=zqR h
theorem zq0 {rest:List Expr} (ha:SE X E a fa) (hb:SE X E (.BoolOp .And (b::rest) pos) fb):SE X E (.BoolOp .And (a::b::rest) pos) (fun sd=>do let c<-(do let x<-fa sd;zdk x);if c=true then fb sd else pure (.bl false)):=by
 refine PE.imp (zqE ha hb) fun σ H Q ⟨ι,h,sd,L,hh,q⟩=> ?_
 have q1:=zfP (K:=X.K) (E:=E) (f:=fa) σ H (fun c H1=>if c=true then zjr X.K E fb σ H1 Q else Q (.bl false) H1) ⟨ι,h,sd,L,hh,Fin.bind q fun c h1 ι1 H1 e1 s1 hr1 q1=> ?_⟩
 ·exact q1
 ·cases c with
  | true=>exact zpj ⟨ι1,h1,sd,L.step s1,hr1,q1⟩
  | false=>exact zpe (Fin.out hr1 q1 _ (by simp [Rel]))
theorem zpX (ha:SE X E a fa):SE X E (.UnaryOp .Not a pos) (fun sd=>do let c<-(do let x<-fa sd;zdk x);pure (.bl (!c))):=by
 refine PE.imp (zpB ha) fun σ H Q ⟨ι,h,sd,L,hh,q⟩=> ?_
 have q1:=zfP (K:=X.K) (E:=E) (f:=fa) σ H (fun c H1=>Q (.bl (!c)) H1) ⟨ι,h,sd,L,hh,Fin.bind q fun c h1 ι1 H1 e1 s1 hr1 q1=> ?_⟩
 ·exact q1
 ·exact Fin.out hr1 q1 _ (by simp [Rel])
theorem zl2 {c:Expr} {t:Sd->M Bool} (hc:ST X E c t) (ha:SE X E a fa) (hb:SE X E b fb):SE X E (.IfExp c a b pos) (fun sd=>do let c<-t sd;if c=true then fa sd else fb sd):=by
 refine PE.imp (zmz hc ha hb) fun σ H Q ⟨ι,h,sd,L,hh,q⟩=>⟨ι,h,sd,L,hh,Fin.bind q fun c h1 ι1 H1 e1 s1 hr1 q1=> ?_⟩
 cases c with
 | true=>exact zpj ⟨ι1,h1,sd,L.step s1,hr1,q1⟩
 | false=>exact zpe ⟨ι1,h1,sd,L.step s1,hr1,q1⟩
noncomputable def zag (i:Nat):Sd->M D:=fun sd=>match sd[i]? with
 | some (some d)=>pure d
 | _=>M.bad
theorem zpw (i:Nat) {x:Str} (hN:X.N[i]? = some x) (hv:Vis X.env.scope x) (hd:(x==("__debug__":Str))=false:=by decide) (hcd:(x==("__classdict__":Str))=false:=by decide):SE X E (.Name x pos) (zag i):=by
 refine PE.imp (zmM hN hv hd hcd) fun σ H Q ⟨ι,h,sd,L,hh,q⟩=> ?_
 unfold zag at q
 cases e:sd[i]? with
 | none=>rw [e] at q;exact qa0 q
 | some o=>
  rw [e] at q
  cases o with
  | none=>exact qa0 q
  | some d=>
   obtain ⟨v,e1,r⟩:=L.2 i d e
   exact ⟨v,e1,Fin.out hh q v r⟩
theorem zdM {K:W.Frag} {d:D} {v:V} (r: ∀ ι H,Rel K ι H d v) (σ:St) (H:Hp) (Q:VK) (q:zjr K E (fun _=>pure d) σ H Q):tC v σ H Q:=by
 obtain ⟨ι,h,sd,L,hh,q⟩:=q
 exact Fin.out hh q v (r _ _)
theorem zpp {i:Int} {j:Nat}:SE X E (.Constant (.int i) j pos) (fun _=>pure (.int i)):=PE.imp zra (zdM fun _ _=>by simp [Rel])
theorem zsF {i:Bool} {j:Nat}:SE X E (.Constant (.bool i) j pos) (fun _=>pure (.bl i)):=PE.imp zp5 (zdM fun _ _=>by simp [Rel])
theorem zpx {j:Nat}:SE X E (.Constant .none j pos) (fun _=>pure .non):=PE.imp zqx (zdM fun _ _=>by simp [Rel])
theorem zrv {i:Str} {j:Nat}:SE X E (.Constant (.str i) j pos) (fun _=>pure (.str i)):=PE.imp zng (zdM fun _ _=>by simp [Rel])
theorem zmi {x:Str} {i:Int} {t:Tok} (hg:Gl X x) (hm:X.mg x=some (.int i t)) (hd:(x==("__debug__":Str))=false:=by decide):SE X E (.Name x pos) (fun _=>pure (.int i)):=PE.imp (zhY (v:= .int i) hg hm ⟨t,rfl⟩ hd) (zdM fun _ _=>by simp [Rel])
theorem zp3:SA X E [] (fun _=>pure []):=PA.imp zcV fun σ H Q ⟨ι,h,sd,L,hh,q⟩=>Fin.out hh q [] zat.nil
theorem zo9 {fs:Sd->M (List D)} (ha:SE X E e fa) (hr:SA X E es fs) (hs:starEach (e::es) X.env=(false,eval e X.env)::starEach es X.env:=by rfl):SA X E (e::es) (fun sd=>do let x<-fa sd;let r<-fs sd;pure (x::r)):=by
 refine PA.imp (zbt ha hr hs) fun σ H Q ⟨ι,h,sd,L,hh,q⟩=>⟨ι,h,sd,L,hh,Fin.bind q fun d h1 ι1 H1 e1 s1 hr1 q1 v rv=> ?_⟩
 refine ⟨ι1,h1,sd,L.step s1,hr1,Fin.bind q1 fun ds h2 ι2 H2 e2 s2 hr2 q2 vs rvs=> ?_⟩
 exact Fin.out hr2 q2 _ (zat.cons (rv.step s2) rvs)
end
theorem za9.nin {K:W.Frag} {ι:Io} {H:Hp} {h:Hh} (hr:za9 K ι H h) {p:Addr} (hp:H p=none): ¬ι.Has p:=fun z=>by
 rcases z with z | z
 ·obtain ⟨n,hn⟩:=List.mem_iff_getElem?.mp z
  have hl:n<h.length:=by rw [hr.len];exact (qac.mp hn).1
  obtain ⟨o,e,_⟩:=hr.at_ n p h[n] hn (by simp [hl])
  rw [hp] at e
  cases e
 ·obtain ⟨⟨o,e⟩,_⟩:=hr.hidt p z
  rw [hp] at e
  cases e
theorem za9.laidS {K:W.Frag} {ι:Io} {H:Hp} {h:Hh} (hr:za9 K ι H h) {p:Addr} {o:HO} (hp:H p=none):zbJ ι H ι (upd H p o):=
 ⟨fun _ _ h=> .inl h,fun _ h=> .inl h,rfl,fun a ha=>zaz fun z=>hr.nin hp (.inr (z▸ha)),fun b o' h _=>by rw [zaz (zaO h hp)];exact h⟩
theorem za9.laid {K:W.Frag} {ι:Io} {H:Hp} {h:Hh} {p:Addr} {o:HO} (hr:za9 K ι H h) (hp:H p=none):za9 K ι (upd H p o) h:=
 ⟨hr.len,hr.inj,fun n a c hn hc=>by
   obtain ⟨o',e2,e3⟩:=hr.at_ n a c hn hc
   exact ⟨o',by rw [zaz (zaO e2 hp)];exact e2,e3.pass (hr.laidS hp).pass⟩,hr.dead,fun a ha=>⟨by rw [zaz (show a≠p from fun z=>hr.nin hp (.inr (z▸ha)))];exact (hr.hidt a ha).1,(hr.hidt a ha).2⟩⟩
noncomputable def fits (n:Nat):M Unit:=if n<=sizeLine then pure () else M.bad
theorem Fin.fits {α:Type} {K:W.Frag} {E:XE} {ι:Io} {H:Hp} {n:Nat} {f:M α} {h:Hh} {P:α->Io->Hp->Prop} (q:Fin K E ι H ((do L3.fits n;f) h) P):n<=sizeLine/\Fin K E ι H (f h) P:=by
 have q':Fin K E ι H (M.bind (L3.fits n) (fun _=>f) h) P:=q
 unfold M.bind L3.fits at q'
 by_cases hn:n<=sizeLine
 ·rw [qa4 hn] at q'
  exact ⟨hn,q'⟩
 ·rw [qa5 hn] at q'
  exact qa0 q'
section
variable {X:Cx} {E:XE} {es:List Expr} {pos:Pos} {fs:Sd->M (List D)}
theorem zrC {K:W.Frag} {ι:Io} {H:Hp} {h:Hh} {ds:List D} {vs:List V} {Q:VK} (hr:za9 K ι H h) (rl:zat K ι H ds vs) (q:Fin K E ι H ((pure (.tup ds):M D) h) fun d ι' H'=> ∀ v,Rel K ι' H' d v->Q v H') {p:Addr} (hp:H p=none):Q (.ref p) (upd H p (.tup vs)):=
 q ι _ (hr.laidS hp) (hr.laid hp) _ (by
   simp only [Rel]
   exact ⟨p,vs,rfl,⟨zaV,hr.nin hp⟩,rl.step (hr.laidS hp)⟩)
theorem zrJ {K:W.Frag} {ι:Io} {H:Hp} {h:Hh} {ds:List D} {vs:List V} {Q:VK} (hr:za9 K ι H h) (rl:zat K ι H ds vs) (q:Fin K E ι H ((pure (.lst ds):M D) h) fun d ι' H'=> ∀ v,Rel K ι' H' d v->Q v H') {p:Addr} (hp:H p=none):Q (.ref p) (upd H p (.lst vs)):=
 q ι _ (hr.laidS hp) (hr.laid hp) _ (by
   simp only [Rel]
   exact ⟨p,vs,rfl,⟨zaV,hr.nin hp⟩,rl.step (hr.laidS hp)⟩)
noncomputable def zdZ (ds:List D):M D:=fun h=> .ok (.cel h.length) (h++[.lst ds])
theorem zq9 {K:W.Frag} {ι:Io} {H:Hp} {h:Hh} {c0:C} {o0:HO} {Q:VK} (hr:za9 K ι H h) (co:CO K ι H c0 o0) (q:Fin K E ι H (.ok (.cel h.length) (h++[c0])) fun d ι' H'=> ∀ v,Rel K ι' H' d v->Q v H') {p:Addr} (hp:H p=none):Q (.ref p) (upd H p o0):=by
 have hlen:=hr.len
 have nh:=hr.nin hp
 have st:zbJ ι H ⟨ι.c++[some p],ι.x⟩ (upd H p o0):=by
  refine ⟨fun n o h=> .inl ?_,fun a h=> ?_,rfl,fun a ha=>zaz fun z=>nh (.inr (z▸ha)),fun b o' h _=>by rw [zaz (zaO h hp)];exact h⟩
  ·show (ι.c++[some p])[n]? = _
   rw [qad (qac.mp h).1];exact h
  ·rcases qaK.mp h with h | h
   ·exact .inl h
   ·simp at h;subst h;exact .inr hp
 have at_: ∀ (n:Nat) (a:Addr),(ι.c++[some p])[n]? = some (some a)->(ι.c[n]? = some (some a))\/(n=ι.c.length/\a=p):=fun n a h=>by
  by_cases hl:n<ι.c.length
  ·rw [qad hl] at h;exact .inl h
  ·rw [qaa (by omega)] at h
   have:n - ι.c.length=0:=by
    cases z:n - ι.c.length with
    | zero=>rfl
    | succ k=>rw [z] at h;simp at h
   rw [this] at h
   simp at h
   exact .inr ⟨by omega,h.symm⟩
 refine q _ _ st ⟨?_,fun m n a h1 h2=> ?_,fun n a c h1 h2=> ?_,fun n h1=> ?_,fun a ha=>⟨?_,fun z=> ?_⟩⟩ _ ?_
 ·show (h++[c0]).length=(ι.c++[some p]).length
  rw [qav,qav,hlen];rfl
 ·rcases at_ m a h1 with z1 | ⟨z1,z1'⟩<;>rcases at_ n a h2 with z2 | ⟨z2,z2'⟩
  ·exact hr.inj m n a z1 z2
  ·subst z2';exact absurd (.inl (List.mem_of_getElem? z1)) nh
  ·subst z1';exact absurd (.inl (List.mem_of_getElem? z2)) nh
  ·rw [z1,z2]
 ·rcases at_ n a h1 with z1 | ⟨z1,z1'⟩
  ·rw [qad (by rw [hlen];exact (qac.mp z1).1)] at h2
   obtain ⟨o',e2,e3⟩:=hr.at_ n a c z1 h2
   exact ⟨o',by rw [zaz (zaO e2 hp)];exact e2,e3.pass st.pass⟩
  ·subst z1 z1'
   rw [<- hlen,qaa (qaV _)] at h2
   simp at h2
   subst h2
   exact ⟨o0,zaV,co.pass st.pass⟩
 ·have h1:(ι.c++[some p])[n]? = some none:=h1
  by_cases hl:n<ι.c.length
  ·rw [qad hl] at h1
   rw [qad (by rw [hlen];exact hl)]
   exact hr.dead n h1
  ·rw [qaa (by omega)] at h1
   cases z:n - ι.c.length with
   | zero=>rw [z] at h1;simp at h1
   | succ k=>rw [z] at h1;simp at h1
 ·rw [zaz (show a≠p from fun z=>nh (.inr (z▸ha)))]
  exact (hr.hidt a ha).1
 ·rcases qaK.mp z with z | z
  ·exact (hr.hidt a ha).2 z
  ·simp at z;subst z;exact nh (.inr ha)
 ·simp only [Rel]
  refine ⟨p,rfl,.inl ?_⟩
  show (ι.c++[some p])[h.length]? = _
  rw [hlen,qaa (qaV _)]
  simp
theorem ztz {K:W.Frag} {ι:Io} {H:Hp} {h:Hh} {ds:List D} {vs:List V} {Q:VK} (hr:za9 K ι H h) (rl:zat K ι H ds vs) (q:Fin K E ι H (zdZ ds h) fun d ι' H'=> ∀ v,Rel K ι' H' d v->Q v H') {p:Addr} (hp:H p=none):Q (.ref p) (upd H p (.lst vs)):=
 zq9 hr (c0:= .lst ds) ⟨vs,rfl,rl⟩ q hp
theorem zqe {x1} (h:SA X E es fs):SE X E (.Tuple es x1 pos) (fun sd=>do let ds<-fs sd;fits ds.length;pure (.tup ds)):=by
 refine PE.imp (zpE h) fun σ H Q ⟨ι,h,sd,L,hh,q⟩=>⟨ι,h,sd,L,hh,Fin.bind q fun ds h1 ι1 H1 e1 s1 hr1 q1 vs rvs=> ?_⟩
 obtain ⟨z,q2⟩:=Fin.fits q1
 exact ⟨by rw [<- rvs.length];exact z,fun p hp=>zrC hr1 rvs q2 hp⟩
theorem zru (h:SA X E es fs):SE X E (.List es pos) (fun sd=>do let ds<-fs sd;fits ds.length;pure (.lst ds)):=by
 refine PE.imp (zku h) fun σ H Q ⟨ι,h,sd,L,hh,q⟩=>⟨ι,h,sd,L,hh,Fin.bind q fun ds h1 ι1 H1 e1 s1 hr1 q1 vs rvs=> ?_⟩
 obtain ⟨z,q2⟩:=Fin.fits q1
 exact ⟨by rw [<- rvs.length];exact z,fun p hp=>zrJ hr1 rvs q2 hp⟩
theorem znS (h:SA X E es fs):SE X E (.List es pos) (fun sd=>do let ds<-fs sd;fits ds.length;zdZ ds):=by
 refine PE.imp (zku h) fun σ H Q ⟨ι,h,sd,L,hh,q⟩=>⟨ι,h,sd,L,hh,Fin.bind q fun ds h1 ι1 H1 e1 s1 hr1 q1 vs rvs=> ?_⟩
 obtain ⟨z,q2⟩:=Fin.fits q1
 exact ⟨by rw [<- rvs.length];exact z,fun p hp=>ztz hr1 rvs q2 hp⟩
end
inductive Out where
 | nx (sd:Sd) | rt (d:D) | bk (sd:Sd) | ct (sd:Sd)
noncomputable def zgg (K:W.Frag) (D0:zmT):Out->Io->Hp->Prop
 | .nx sd',ι',H'=> ∀ σ',zcF K ι' H' sd' σ'->D0.nx σ' H'
 | .rt d,ι',H'=> ∀ v,Rel K ι' H' d v->D0.rt v H'
 | .bk sd',ι',H'=> ∀ σ',zcF K ι' H' sd' σ'->D0.bk σ' H'
 | .ct sd',ι',H'=> ∀ σ',zcF K ι' H' sd' σ'->D0.ct σ' H'
noncomputable def ztf (K:W.Frag) (E:XE) (G:Sd->M Out):TS:=fun D0 σ H=> ∃ ι h sd,zcF K ι H sd σ/\za9 K ι H h/\Fin K E ι H (G sd h) (zgg K D0)
noncomputable abbrev SS (X:Cx) (E:XE) (st:Stmt) (G:Sd->M Out):Prop:=PS X st (ztf X.K E G)
noncomputable abbrev SSs (X:Cx) (E:XE) (st:List Stmt) (G:Sd->M Out):Prop:=PSs X st (ztf X.K E G)
noncomputable def andThen (o:Out) (g:Sd->M Out):M Out:=match o with
 | .nx sd=>g sd
 | o=>pure o
section
variable {X:Cx} {E:XE} {pos:Pos}
theorem zpm:SSs X E [] (fun sd=>pure (.nx sd)):=PSs.imp zoi fun D0 σ H ⟨ι,h,sd,L,hh,q⟩=>Fin.out hh q σ L
theorem zod {st:Stmt} {rest:List Stmt} {g g':Sd->M Out} (h1:SS X E st g) (h2:SSs X E rest g'):SSs X E (st::rest) (fun sd=>do let o<-g sd;andThen o g'):=by
 refine PSs.imp (zlP h1 h2) fun D0 σ H ⟨ι,h,sd,L,hh,q⟩=>⟨ι,h,sd,L,hh,Fin.bind q fun o h1 ι1 H1 e1 s1 hr1 q1=> ?_⟩
 cases o with
 | nx sd'=>exact fun σ' L'=>⟨ι1,h1,sd',L',hr1,q1⟩
 | rt d=>exact Fin.out (E:=E) (P:=zgg X.K D0) hr1 q1
 | bk sd'=>exact Fin.out (E:=E) (P:=zgg X.K D0) hr1 q1
 | ct sd'=>exact Fin.out (E:=E) (P:=zgg X.K D0) hr1 q1
theorem zqy {st:Stmt} {g:Sd->M Out} (h1:SS X E st g):SSs X E [st] g:=znD h1
theorem zpv {e:Expr} {f:Sd->M D} (he:SE X E e f) (hs:swapsWith e none pos.line X.env=pure false:=by rfl):SS X E (.Expr e pos) (fun sd=>do let _<-f sd;pure (.nx sd)):=by
 refine PS.imp (zoa he hs) fun D0 σ H ⟨ι,h,sd,L,hh,q⟩=>⟨ι,h,sd,L,hh,Fin.bind q fun d h1 ι1 H1 e1 s1 hr1 q1 v rv=> ?_⟩
 exact Fin.out hr1 q1 σ (L.step s1)
theorem zs4 {e:Expr} {f:Sd->M D} (he:SE X E e f):SS X E (.Return (some e) pos) (fun sd=>do let d<-f sd;pure (.rt d)):=by
 refine PS.imp (zqj he) fun D0 σ H ⟨ι,h,sd,L,hh,q⟩=>⟨ι,h,sd,L,hh,Fin.bind q fun d h1 ι1 H1 e1 s1 hr1 q1 v rv=> ?_⟩
 exact Fin.out hr1 q1 v rv
theorem zto {c:Expr} {a b:List Stmt} {t:Sd->M Bool} {g g':Sd->M Out} (hc:ST X E c t) (ha:SSs X E a g) (hb:SSs X E b g'):SS X E (.If c a b pos) (fun sd=>do let c<-t sd;if c=true then g sd else g' sd):=by
 refine PS.imp (zsM hc ha hb) fun D0 σ H ⟨ι,h,sd,L,hh,q⟩=>⟨ι,h,sd,L,hh,Fin.bind q fun c h1 ι1 H1 e1 s1 hr1 q1=> ?_⟩
 cases c with
 | true=>exact zpj ⟨ι1,h1,sd,L.step s1,hr1,q1⟩
 | false=>exact zpe ⟨ι1,h1,sd,L.step s1,hr1,q1⟩
noncomputable def zsI (K:W.Frag) (E:XE) (g:D->Sd->M Sd):TG:=fun v σ H Q=> ∃ ι h sd d,zcF K ι H sd σ/\za9 K ι H h/\Rel K ι H d v/\Fin K E ι H (g d sd h) fun sd' ι' H'=> ∀ σ',zcF K ι' H' sd' σ'->Q σ' H'
noncomputable def zr9 (K:W.Frag) (E:XE) (g:List D->Sd->M Sd):TGs:=fun vs σ H Q=> ∃ ι h sd ds,zcF K ι H sd σ/\za9 K ι H h/\zat K ι H ds vs/\Fin K E ι H (g ds sd h) fun sd' ι' H'=> ∀ σ',zcF K ι' H' sd' σ'->Q σ' H'
noncomputable abbrev SG (X:Cx) (E:XE) (tg:Expr) (g:D->Sd->M Sd):Prop:=PG X tg (zsI X.K E g)
noncomputable abbrev SGs (X:Cx) (E:XE) (tgs:List Expr) (g:List D->Sd->M Sd):Prop:=PGs X tgs (zr9 X.K E g)
noncomputable def zaD (i:Nat):D->Sd->M Sd:=fun d sd=>pure (sd.set i (some d))
theorem znB (i:Nat) {x:Str} (hN:X.N.Nodup) (hi:X.N[i]? = some x) (hx:Loc X.env.scope x) (hf:X.fn x=true\/X.env.scope.names.lookup x=some .local):SG X E (.Name x pos) (zaD i):=by
 refine PG.imp (znw hN hi hx hf) fun v σ H Q ⟨ι,h,sd,d,L,hh,r,q⟩=> ?_
 exact Fin.out hh q _ (L.set r i)
theorem PGs.imp {tgs:List Expr} {t t':TGs} (h:PGs X tgs t) (m: ∀ v σ H Q,t' v σ H Q->t v σ H Q):PGs X tgs t':=fun pins s σ H v u Q I r q=>h pins s σ H v u Q I r (m _ _ _ _ q)
noncomputable def zbR:List D->Sd->M Sd:=fun ds sd=>match ds with | []=>pure sd | _=>M.bad
noncomputable def zaw (g:D->Sd->M Sd) (gs:List D->Sd->M Sd):List D->Sd->M Sd:=fun ds sd=>match ds with
 | []=>M.bad
 | d::r=>do let sd1<-g d sd;gs r sd1
theorem zo4:SGs X E [] zbR:=by
 refine PGs.imp zoz fun v σ H Q ⟨ι,h,sd,ds,L,hh,r,q⟩=> ?_
 cases ds with
 | nil=>simp only [zat] at r;exact ⟨r,Fin.out hh q _ L⟩
 | cons d r=>exact qa0 q
theorem zlF {e:Expr} {es:List Expr} {g:D->Sd->M Sd} {gs:List D->Sd->M Sd} (h1:SG X E e g) (h2:SGs X E es gs)
  (hs:(assignEach (e::es) X.env).map (·.2)=assign e X.env::(assignEach es X.env).map (·.2):=by rfl):SGs X E (e::es) (zaw g gs):=by
 refine PGs.imp (zmk h1 h2 hs) fun v σ H Q ⟨ι,h,sd,ds,L,hh,r,q⟩=> ?_
 cases ds with
 | nil=>exact qa0 q
 | cons d ds=>
  simp only [zat] at r
  obtain ⟨v1,vr,rfl,r1,r2⟩:=r
  refine ⟨v1,vr,rfl,ι,h,sd,d,L,hh,r1,Fin.bind q fun sd1 h1 ι1 H1 e1 s1 hr1 q1 σ1 L1=> ?_⟩
  exact ⟨ι1,h1,sd1,ds,L1,hr1,r2.step s1,q1⟩
noncomputable def zbO (n:Nat) (gs:List D->Sd->M Sd):D->Sd->M Sd:=fun d sd=>match d with
 | .tup ds=>if ds.length=n then gs ds sd else M.bad
 | _=>M.bad
theorem zdt {K:W.Frag} {ι:Io} {H:Hp} {ds:List D} {v:V} (h:Rel K ι H (.tup ds) v): ∃ a vs,v= .ref a/\SqT K H a vs/\zat K ι H ds vs:=by
 simp only [Rel] at h
 obtain ⟨a,vs,e,h1,h2⟩:=h
 exact ⟨a,vs,e,.inl (.inl h1.1),h2⟩
theorem zjL {K:W.Frag} {ι:Io} {H:Hp} {ds:List D} {v:V} (h:Rel K ι H (.scr ds) v): ∃ a vs,v= .ref a/\SqL K H a vs/\zat K ι H ds vs:=by
 simp only [Rel] at h
 obtain ⟨a,vs,e,h1,h2⟩:=h
 refine ⟨a,vs,e,?_,h2⟩
 rcases h1 with h1 | h1
 ·exact .inl h1.1
 ·rcases h1 with h1 | h1
  ·rcases h1 with h1 | ⟨o,h1⟩<;>cases h1
  ·exact .inr h1
theorem zdG {K:W.Frag} {ι:Io} {H:Hp} {ds:List D} {v:V} (h:Rel K ι H (.lst ds) v): ∃ a vs,v= .ref a/\SqL K H a vs/\zat K ι H ds vs:=by
 simp only [Rel] at h
 obtain ⟨a,vs,e,h1,h2⟩:=h
 exact ⟨a,vs,e,.inl (.inl h1.1),h2⟩
theorem zqm {es:List Expr} {k:Nat} {gs:List D->Sd->M Sd} {n:Nat} (hc:X.calm=true) (h:SGs X E es gs)
  (hn:(assignEach es X.env).length=n:=by rfl) (hst:(assignEach es X.env).findIdx? (·.1)=none:=by rfl):SG X E (.Tuple es k pos) (zbO n gs):=by
 refine PG.imp (zqt hc h hn hst) fun v σ H Q ⟨ι,h,sd,d,L,hh,r,q⟩=> ?_
 cases d with
 | tup ds=>
  obtain ⟨a,vs,e,h1,h2⟩:=zdt r
  have q:Fin X.K E ι H ((if ds.length=n then gs ds sd else M.bad) h) _:=q
  by_cases hl:ds.length=n
  ·rw [qa4 hl] at q
   exact ⟨a,vs,e,h1,by rw [<- h2.length];exact hl,ι,h,sd,ds,L,hh,h2,q⟩
  ·rw [qa5 hl] at q
   exact qa0 q
 | _=>exact qa0 q
theorem zso {tg e:Expr} {f:Sd->M D} {g:D->Sd->M Sd} (he:SE X E e f) (hg:SG X E tg g) (hs:swapsWithSole [tg] e pos.line X.env=pure false:=by rfl) (hw:swappedStores [tg] e X.env=pure none:=by rfl)
  (h1:(assignEach [tg] X.env).map (·.2)=[assign tg X.env]:=by rfl):SS X E (.Assign [tg] e pos) (fun sd=>do let d<-f sd;let sd'<-g d sd;pure (.nx sd')):=by
 refine PS.imp (zp1 he hg hs hw h1) fun D0 σ H ⟨ι,h,sd,L,hh,q⟩=>⟨ι,h,sd,L,hh,Fin.bind q fun d h1 ι1 H1 e1 s1 hr1 q1 v rv=> ?_⟩
 exact ⟨ι1,h1,sd,d,L.step s1,hr1,rv,Fin.bind q1 fun sd' h2 ι2 H2 e2 s2 hr2 q2=>Fin.out hr2 q2⟩
theorem zsB (i:Nat) {x:Str} {e:Expr} {f:Sd->M D} {pos':Pos} (hN:X.N.Nodup) (hi:X.N[i]? = some x) (hx:Loc X.env.scope x) (hf:X.fn x=true\/X.env.scope.names.lookup x=some .local) (he:SE X E e f) (hs:swapsWith e (some (.Name x pos')) pos.line X.env=pure false:=by rfl):
  SS X E (.Assign [.Name x pos'] e pos) (fun sd=>do let d<-f sd;pure (.nx (sd.set i (some d)))):=by
 refine PS.imp (zqB hN hi hx he hs hf) fun D0 σ H ⟨ι,h,sd,L,hh,q⟩=>⟨ι,h,sd,L,hh,Fin.bind q fun d h1 ι1 H1 e1 s1 hr1 q1 v rv=> ?_⟩
 exact Fin.out hr1 q1 _ ((L.step s1).set rv i)
theorem zrU {i j:Nat} {x y:Str} {a b:Expr} {fs:Sd->M (List D)} {px py pt:Pos} {kt k2 pt2} (hp:PS X (.Assign [.Tuple [.Name x px,.Name y py] kt pt] (.Tuple [a,b] k2 pt2) pos) (zta i j (zr5 X.K E fs))):
  SS X E (.Assign [.Tuple [.Name x px,.Name y py] kt pt] (.Tuple [a,b] k2 pt2) pos) (fun sd=>do let ds<-fs sd;match ds with | [d,d']=>pure (.nx ((sd.set i (some d)).set j (some d'))) | _=>M.bad):=by
 refine PS.imp hp fun D0 σ H ⟨ι,h,sd,L,hh,q⟩=>⟨ι,h,sd,L,hh,Fin.bind q fun ds h1 ι1 H1 e1 s1 hr1 q1 vs rv=> ?_⟩
 match ds,rv,q1 with
 | [d,d'],rv,q1=>
  simp only [zat] at rv
  obtain ⟨v,r,rfl,r1,v',r',rfl,r2,rfl⟩:=rv
  exact ⟨v,v',rfl,Fin.out hr1 q1 _ (((L.step s1).set r1 i).set r2 j)⟩
 | [],_,q1=>exact qa0 q1
 | [_],_,q1=>exact qa0 q1
 | _::_::_::_,_,q1=>exact qa0 q1
def zrO (H H2:Hp):Prop:=H2=H\/ ∃ q vs,H q=none/\H2=upd H q (.tup vs)
theorem zrO.step {K:W.Frag} {ι:Io} {H H2:Hp} {h:Hh} (g:zrO H H2) (hr:za9 K ι H h):zbJ ι H ι H2/\za9 K ι H2 h:=by
 rcases g with e | ⟨q,vs,hq,e⟩
 ·subst e;exact ⟨zbJ.refl _ _,hr⟩
 ·subst e;exact ⟨hr.laidS hq,hr.laid hq⟩
structure zph (K:W.Frag) (ι:Io) (H:Hp) (J:It) (ds:List D):Prop where
 go: ∀ ι' H' (i:Nat),Pass ι H ι' H'->i<ds.length->J.go i H'
 yld: ∀ ι' H' h (i:Nat) x H2,Pass ι H ι' H'->za9 K ι' H' h->i<ds.length->J.yld i H' x H2->zrO H' H2/\ ∃ d,ds[i]? = some d/\Rel K ι' H2 d x
 stop: ∀ ι' H',Pass ι H ι' H'->J.stop ds.length H'
noncomputable def zth (K:W.Frag) (E:XE) (f:Sd->M (List D)):TI:=fun σ H Q=> ∃ ι h sd,zcF K ι H sd σ/\za9 K ι H h/\Fin K E ι H (f sd h) fun ds ι' H'=> ∀ J,zph K ι' H' J ds->Q J H'
noncomputable abbrev SI (X:Cx) (E:XE) (tg iter:Expr) (f:Sd->M (List D)):Prop:=PI X tg iter (zth X.K E f)
noncomputable def zeA:D->M (List D)
 | .tup ds=>pure ds
 | .lst ds=>pure ds
 | _=>M.bad
theorem zlE {K:W.Frag} {ι:Io} {H:Hp} {a:Addr} {vs:List V} {ds:List D} (h: ∀ ι' H',Pass ι H ι' H'->SqT K H' a vs) (rl:zat K ι H ds vs):zph K ι H (Itt K a) ds where
 go:=fun ι' H' i s hi=>⟨vs,vs[i]'(by rw [<- rl.length];exact hi),h ι' H' s,by simp⟩
 yld:=fun ι' H' _ i x H2 s _ hi ⟨e,y⟩=>by
  subst e
  have hx:=y vs (h ι' _ s)
  obtain ⟨d,e1,e2⟩:=rl.getV hx
  exact ⟨.inl rfl,d,e1,e2.pass s⟩
 stop:=fun ι' H' s=>⟨vs,h ι' H' s,by rw [rl.length];exact qaV _⟩
theorem zmq {K:W.Frag} {ι:Io} {H:Hp} {a:Addr} {vs:List V} {ds:List D} (h: ∀ ι' H',Pass ι H ι' H'->SqL K H' a vs) (rl:zat K ι H ds vs):zph K ι H (Itl K a) ds where
 go:=fun ι' H' i s hi=>⟨vs,vs[i]'(by rw [<- rl.length];exact hi),h ι' H' s,by simp⟩
 yld:=fun ι' H' _ i x H2 s _ hi ⟨e,y⟩=>by
  subst e
  have hx:=y vs (h ι' _ s)
  obtain ⟨d,e1,e2⟩:=rl.getV hx
  exact ⟨.inl rfl,d,e1,e2.pass s⟩
 stop:=fun ι' H' s=>⟨vs,h ι' H' s,by rw [rl.length];exact qaV _⟩
theorem Pass.refl (ι:Io) (H:Hp):Pass ι H ι H:=(zbJ.refl ι H).pass
theorem zjI {K:W.Frag} {ι:Io} {H:Hp} {ds:List D} {v:V} (h:Rel K ι H (.tup ds) v): ∃ a vs,v= .ref a/\(∀ ι' H',Pass ι H ι' H'->SqT K H' a vs)/\zat K ι H ds vs:=by
 simp only [Rel] at h
 obtain ⟨a,vs,e,h1,h2⟩:=h
 exact ⟨a,vs,e,fun ι' H' s=> .inl (.inl (s.keep _ _ h1.1 h1.2).1),h2⟩
theorem zoj {K:W.Frag} {ι:Io} {H:Hp} {ds:List D} {v:V} (h:Rel K ι H (.lst ds) v): ∃ a vs,v= .ref a/\(∀ ι' H',Pass ι H ι' H'->SqL K H' a vs)/\zat K ι H ds vs:=by
 simp only [Rel] at h
 obtain ⟨a,vs,e,h1,h2⟩:=h
 exact ⟨a,vs,e,fun ι' H' s=> .inl (.inl (s.keep _ _ h1.1 h1.2).1),h2⟩
end
end L3
namespace L2
open PySem PySem.Spec PyProof.Rows
noncomputable def ztG (K:W.Frag) (tl:TE):TI:=fun σ H R=>tl σ H fun x H1=> ∃ a,x= .ref a/\(((∃ xs,SqL K H1 a xs)/\R (Itl K a) H1)\/((∃ xs,SqT K H1 a xs)/\R (Itt K a) H1))
theorem zqM {X:Cx} {tg:Expr} {l:Expr} {tl:TE} (hl:PE X l tl):PI X tg l (ztG X.K tl):=by
 intro pins s σ H R I h
 refine thn (hl pins s σ H _ I h) fun v s1 ⟨x,H1,I1,r1,q1⟩=> ?_
 obtain ⟨a,e,⟨⟨xs,hq⟩,q⟩ | ⟨⟨xs,hq⟩,q⟩⟩:=q1
 ·subst e
  cases r1
  obtain ⟨its,rv,p,hz⟩:=I1.list hq
  refine wpAny_pyIter_list p.isList ?_
  refine ⟨s1.heap.objs.size,[s1.heap.objs.size],_,_,H1,rfl,I1.kept (t':=s1.toks) fun b o e=>qag _ e,zkX a _,⟨_,qar _ rfl,rfl,rfl⟩,fun b hb=> ?_,q⟩
  have e:b=s1.heap.objs.size:=by simpa using hb
  subst e
  exact I1.fpOk (qaV _) (I1.hok.fresh (qaV _))
 ·subst e
  cases r1
  obtain ⟨its,rv,p,hz⟩:=I1.tuple hq
  refine wpAny_pyIter_tuple (show s1.heap.IsTuple a its.toArray from p) ?_
  refine ⟨s1.heap.objs.size,[s1.heap.objs.size],_,_,H1,rfl,I1.kept (t':=s1.toks) fun b o e=>qag _ e,ziT a _,⟨_,qar _ rfl,rfl,rfl⟩,fun b hb=> ?_,q⟩
  have e:b=s1.heap.objs.size:=by simpa using hb
  subst e
  exact I1.fpOk (qaV _) (I1.hok.fresh (qaV _))
end L2
namespace L3
open PySem PySem.Spec PyProof.Rows L2
section
variable {X:Cx} {E:XE} {pos:Pos}
theorem zpJ {tg e:Expr} {f:Sd->M D} (he:SE X E e f):SI X E tg e (fun sd=>do let d<-f sd;zeA d):=by
 refine PI.imp (zqM he) fun σ H Q ⟨ι,h,sd,L,hh,q⟩=>⟨ι,h,sd,L,hh,Fin.bind q fun d h1 ι1 H1 e1 s1 hr1 q1 v rv=> ?_⟩
 cases d with
 | lst ds=>
  obtain ⟨a,vs,e,h1',h2⟩:=zoj rv
  exact ⟨a,e,.inl ⟨⟨vs,h1' _ _ (Pass.refl _ _)⟩,Fin.out hr1 q1 _ (zmq h1' h2)⟩⟩
 | tup ds=>
  obtain ⟨a,vs,e,h1',h2⟩:=zjI rv
  exact ⟨a,e,.inr ⟨⟨vs,h1' _ _ (Pass.refl _ _)⟩,Fin.out hr1 q1 _ (zlE h1' h2)⟩⟩
 | _=>exact qa0 q1
noncomputable def zeO (lo:Int) (n:Nat):List D:=(List.range n).map fun (k:Nat)=>D.int (lo+(k:Int))
theorem ziu {K:W.Frag} {ι:Io} {H:Hp} {lo:Int} {n:Nat}:zph K ι H (Itr lo n) (zeO lo n) where
 go:=fun ι' H' i s hi=>by show i<n;simpa [zeO] using hi
 yld:=fun ι' H' _ i x H2 s _ hi ⟨e,y⟩=>by
  subst e y
  have hi:i<n:=by simpa [zeO] using hi
  refine ⟨.inl rfl,.int (lo+i),?_,by simp [Rel]⟩
  simp [zeO,hi]
 stop:=fun ι' H' s=>by
  show n<=(zeO lo n).length
  simp [zeO]
noncomputable def zbs (j:Int):Bool:=decide (-(2^62)<=j) && decide (j<2^62)
noncomputable def zka:List D->M (List D)
 | [.int j]=>if zbs j=true then pure (zeO 0 j.toNat) else M.bad
 | _=>M.bad
noncomputable def zkd:List D->M (List D)
 | [.int i,.int j]=>if zbs i=true/\zbs j=true then pure (zeO i (j - i).toNat) else M.bad
 | _=>M.bad
theorem zbB {j:Int} (h:zbs j=true): -(2^62)<=j/\j<2^62:=by
 unfold zbs at h
 simpa using h
theorem zn9 {tg a:Expr} {p:Pos} {fs:Sd->M (List D)} (hg:Gl X "range") (hm:X.mg "range"=none) (ha:SA X E [a] fs) (hs:starEach [a] X.env=[(false,eval a X.env)]:=by rfl):
  SI X E tg (.Call (.Name "range" p) [a] [] pos) (fun sd=>do let ds<-fs sd;zka ds):=by
 refine PI.imp (zk8 hg hm ha hs) fun σ H Q ⟨ι,h,sd,L,hh,q⟩=>⟨ι,h,sd,L,hh,Fin.bind q fun ds h1 ι1 H1 e1 s1 hr1 q1 vs rv=> ?_⟩
 match ds,rv,q1 with
 | [.int j],rv,q1=>
  simp only [zat,Rel] at rv
  obtain ⟨v,r,rfl,rfl,rfl⟩:=rv
  have q1:Fin X.K E ι1 H1 ((if zbs j=true then (pure (zeO 0 j.toNat):M (List D)) else M.bad) h1) _:=q1
  by_cases hj:zbs j=true
  ·rw [qa4 hj] at q1
   exact ⟨j,rfl,(zbB hj).1,(zbB hj).2,Fin.out hr1 q1 _ ziu⟩
  ·rw [qa5 hj] at q1
   exact qa0 q1
 | [],_,q1=>exact qa0 q1
 | .non::_,_,q1=>exact qa0 q1
 | .bl _::_,_,q1=>exact qa0 q1
 | .str _::_,_,q1=>exact qa0 q1
 | .tup _::_,_,q1=>exact qa0 q1
 | .lst _::_,_,q1=>exact qa0 q1
 | .cel _::_,_,q1=>exact qa0 q1
 | .set _::_,_,q1=>exact qa0 q1
 | .dct::_,_,q1=>exact qa0 q1
 | .fn _::_,_,q1=>exact qa0 q1
 | .scr _::_,_,q1=>exact qa0 q1
 | .exn _::_,_,q1=>exact qa0 q1
 | .int _::_::_,_,q1=>exact qa0 q1
theorem zo0 {tg a b:Expr} {p:Pos} {fs:Sd->M (List D)} (hp:PI X tg (.Call (.Name "range" p) [a,b] [] pos) (zp6 (zr5 X.K E fs))):
  SI X E tg (.Call (.Name "range" p) [a,b] [] pos) (fun sd=>do let ds<-fs sd;zkd ds):=by
 refine PI.imp hp fun σ H Q ⟨ι,h,sd,L,hh,q⟩=>⟨ι,h,sd,L,hh,Fin.bind q fun ds h1 ι1 H1 e1 s1 hr1 q1 vs rv=> ?_⟩
 unfold zkd at q1
 split at q1
 ·rename_i i j
  simp only [zat,Rel] at rv
  obtain ⟨v,r,rfl,rfl,v',r',rfl,rfl,rfl⟩:=rv
  by_cases hj:zbs i=true/\zbs j=true
  ·rw [qa4 hj] at q1
   exact ⟨i,j,rfl,⟨(zbB hj.1).1,(zbB hj.1).2,(zbB hj.2).1,(zbB hj.2).2⟩,Fin.out hr1 q1 _ ziu⟩
  ·rw [qa5 hj] at q1
   exact qa0 q1
 ·exact qa0 q1
noncomputable def zaL (body:D->Sd->M Out):List D->Sd->M Out
 | [],sd=>pure (.nx sd)
 | x::r,sd=>do
  let o<-body x sd
  match o with
  | .nx sd'=>zaL body r sd'
  | .ct sd'=>zaL body r sd'
  | .bk sd'=>pure (.nx sd')
  | .rt d=>pure (.rt d)
theorem zs0 {tg iter:Expr} {body:List Stmt} {fi:Sd->M (List D)} {g:D->Sd->M Sd} {gb:Sd->M Out} (hc:X.calm=true) (hp:PassesOwn (model X.prog X.w) X.A X.env X.xe) (hi:SI X E tg iter fi) (hg:SG X E tg g) (hb:SSs X E body gb)
  (hs: ∀ x,foldedSetIterable iter X.env x=pure x:=by intro _;rfl):SS X E (.For tg iter body [] pos) (fun sd=>do let ds<-fi sd;zaL (fun x sd=>do let sd1<-g x sd;gb sd1) ds sd):=by
 refine PS.imp (zpR hp hc hi hg hb hs) fun D0 σ H ⟨ι,h,sd,L,hh,q⟩=>⟨ι,h,sd,L,hh,Fin.bind q fun ds h1 ι1 H1 e1 s1 hr1 q1 J ok=> ?_⟩
 refine ⟨fun i m σ' H'=>m=ds.length - i/\i<=ds.length/\ ∃ ι' h' sd',zbJ ι1 H1 ι' H'/\zcF X.K ι' H' sd' σ'/\za9 X.K ι' H' h'/\Fin X.K E ι' H' (zaL (fun x sd=>do let sd1<-g x sd;gb sd1) (ds.drop i) sd' h') (zgg X.K D0),
   ⟨_,rfl,Nat.zero_le _,ι1,h1,sd,zbJ.refl _ _,L.step s1,hr1,by simpa using q1⟩,?_⟩
 rintro i m σ2 H2 ⟨rfl,hi2,ι2,h2,sd2,s2,L2,hr2,q2⟩
 by_cases hlt:i<ds.length
 ·right
  refine ⟨ok.go ι2 H2 i s2.pass hlt,fun σ' H'=>i+1<=ds.length/\ ∃ ι' h' sd',zbJ ι1 H1 ι' H'/\zcF X.K ι' H' sd' σ'/\za9 X.K ι' H' h'/\Fin X.K E ι' H' (zaL (fun x sd=>do let sd1<-g x sd;gb sd1) (ds.drop (i+1)) sd' h') (zgg X.K D0),
    fun σ' H' p=>⟨ds.length - (i+1),by omega,rfl,p.1,p.2⟩,fun x H3 y=> ?_⟩
  obtain ⟨gr,d,ed,rd⟩:=ok.yld ι2 H2 h2 i x H3 s2.pass hr2 hlt y
  obtain ⟨s3,hr3⟩:=gr.step hr2
  have edr:ds.drop i=d::ds.drop (i+1):=by
   rw [List.drop_eq_getElem_cons hlt]
   rw [qaf hlt] at ed
   rw [Option.some.inj ed]
  rw [edr] at q2
  have q3:Fin X.K E ι2 H3 (zaL (fun x sd=>do let sd1<-g x sd;gb sd1) (d::ds.drop (i+1)) sd2 h2) (zgg X.K D0):=Fin.step s3 q2
  refine ⟨ι2,h2,sd2,d,L2.step s3,hr3,rd,?_⟩
  have q5:Fin X.K E ι2 H3 ((g d sd2>>=fun sd1=>(gb sd1>>=fun o=>(match o with
    | .nx sd'=>zaL (fun x sd=>do let sd1<-g x sd;gb sd1) (ds.drop (i+1)) sd'
    | .ct sd'=>zaL (fun x sd=>do let sd1<-g x sd;gb sd1) (ds.drop (i+1)) sd'
    | .bk sd'=>pure (.nx sd')
    | .rt d=>pure (.rt d):M Out))) h2) (zgg X.K D0):=by
   have e:(zaL (fun x sd=>do let sd1<-g x sd;gb sd1) (d::ds.drop (i+1)) sd2 h2)=((g d sd2>>=fun sd1=>(gb sd1>>=fun o=>(match o with
     | .nx sd'=>zaL (fun x sd=>do let sd1<-g x sd;gb sd1) (ds.drop (i+1)) sd'
     | .ct sd'=>zaL (fun x sd=>do let sd1<-g x sd;gb sd1) (ds.drop (i+1)) sd'
     | .bk sd'=>pure (.nx sd')
     | .rt d=>pure (.rt d):M Out))) h2):=by
    show M.bind (M.bind (g d sd2) gb) _ h2=M.bind (g d sd2) _ h2
    unfold M.bind
    cases g d sd2 h2<;>rfl
   rw [<- e]
   exact q3
  refine Fin.bind q5 fun sd6 h6 ι6 H6 e6 s6 hr6 q6 σ6 L6=> ?_
  refine ⟨ι6,h6,sd6,L6,hr6,Fin.bind q6 fun o h7 ι7 H7 e7 s7 hr7 q7=> ?_⟩
  have st7:zbJ ι1 H1 ι7 H7:=((s2.trans s3).trans s6).trans s7
  cases o with
  | nx sd'=>exact fun σ' L'=>⟨hlt,ι7,h7,sd',st7,L',hr7,q7⟩
  | ct sd'=>exact fun σ' L'=>⟨hlt,ι7,h7,sd',st7,L',hr7,q7⟩
  | bk sd'=>exact fun σ' L'=>Fin.out (E:=E) (P:=zgg X.K D0) hr7 q7 σ' L'
  | rt d=>exact fun v rv=>Fin.out (E:=E) (P:=zgg X.K D0) hr7 q7 v rv
 ·left
  have e:i=ds.length:=by omega
  subst e
  refine ⟨ok.stop ι2 H2 s2.pass,?_⟩
  rw [List.drop_length] at q2
  exact Fin.out (E:=E) (P:=zgg X.K D0) hr2 q2 σ2 L2
noncomputable def zbY (f:D->M (Option D)):List D->M (List D)
 | []=>pure []
 | x::r=>do
  let o<-f x
  let ys<-zbY f r
  pure (match o with | some y=>y::ys | none=>ys)
noncomputable def zbl (g:D->Sd->M Sd) (tc:Sd->M Bool) (te:Sd->M D) (sd:Sd) (x:D):M (Option D):=do
 let sd1<-g x sd
 let c<-tc sd1
 if c=true then do
  let y<-te sd1
  pure (some y)
 else pure none
end
noncomputable def Io.hide (ι:Io) (p:Addr):Io:=⟨ι.c,p::ι.x⟩
noncomputable def Io.show (ι:Io):Io:=⟨ι.c,ι.x.tail⟩
theorem zma {ι:Io} {a:Addr} (h:ι.show.Has a):ι.Has a:=h.imp id List.mem_of_mem_tail
section
variable {K:W.Frag} {ι ι':Io} {H H':Hp} {p:Addr} {o:HO} {h:Hh}
theorem zgJ (hp:H p=none):Pass ι H (ι.hide p) (upd H p o):=⟨fun _ _ z=> .inl z,fun b o' hb n=>⟨by rw [zaz (zaO hb hp)];exact hb,fun z=>by
  rcases z with z | z
  · exact n (.inl z)
  · rcases qaP.mp z with z | z
    · rw [z,hp] at hb;cases hb
    · exact n (.inr z)⟩⟩
theorem zgF:Pass ι H ι.show H:=⟨fun _ _ z=> .inl z,fun b o' hb n=>⟨hb,fun z=>n (zma z)⟩⟩
theorem zfT (hp:p∈ι.x):Pass ι H ι (upd H p o):=⟨fun _ _ z=> .inl z,fun b o' hb n=>⟨by rw [zaz (show b≠p from fun z=>n (.inr (z▸hp)))];exact hb,n⟩⟩
theorem za9.hide (hr:za9 K ι H h) (hp:H p=none):za9 K (ι.hide p) (upd H p o) h:=
 ⟨hr.len,hr.inj,fun n a c h1 h2=>by
   obtain ⟨o',e2,e3⟩:=hr.at_ n a c h1 h2
   exact ⟨o',by rw [zaz (zaO e2 hp)];exact e2,e3.pass (zgJ hp)⟩,hr.dead,fun a ha=>by
   rcases qaP.mp ha with z | z
   · subst z;exact ⟨⟨o,zaV⟩,fun z=>hr.nin hp (.inl z)⟩
   · refine ⟨?_,(hr.hidt a z).2⟩
     rw [zaz (show a≠p from fun w=>hr.nin hp (.inr (w▸z)))]
     exact (hr.hidt a z).1⟩
theorem za9.hid (hr:za9 K ι H h) (hp:p∈ι.x):za9 K ι (upd H p o) h:=
 ⟨hr.len,hr.inj,fun n a c h1 h2=>by
   obtain ⟨o',e2,e3⟩:=hr.at_ n a c h1 h2
   have ne:a≠p:=fun z=>(hr.hidt p hp).2 (z▸List.mem_of_getElem? h1)
   exact ⟨o',by rw [zaz ne];exact e2,e3.pass (zfT hp)⟩,hr.dead,fun a ha=>by
   refine ⟨?_,(hr.hidt a ha).2⟩
   by_cases z:a=p
   · subst z;exact ⟨o,zaV⟩
   · rw [zaz z];exact (hr.hidt a ha).1⟩
theorem za9.show (hr:za9 K ι H h):za9 K ι.show H h:=
 ⟨hr.len,hr.inj,fun n a c h1 h2=>by
   obtain ⟨o',e2,e3⟩:=hr.at_ n a c h1 h2
   exact ⟨o',e2,e3.pass zgF⟩,hr.dead,fun a ha=>hr.hidt a (List.mem_of_mem_tail ha)⟩
theorem zkE {ι1 ι2:Io} {H1 H2:Hp} (hp:H p=none) (hpx:p∉ι.x) (hx:ι1.x=p::ι.x) (s:zbJ ι H ι1.show H1) (t:zbJ ι1 H1 ι2 H2):zbJ ι H ι2.show (upd H2 p o) where
 old:=fun n q h=>by
  rcases s.old n q h with h | h
  ·exact t.old n q h
  ·rcases t.old n _ h with h | h<;>exact .inr h
 new:=fun a h=>by
  rcases t.new a h with h | h
  ·exact s.new a h
  ·by_cases z:some a∈ι.c
   ·exact .inl z
   ·refine .inr ?_
    cases q:H a with
    | none=>rfl
    | some o=>
     by_cases z':a∈ι.x
     ·rw [s.hidk a z',q] at h;cases h
     ·rw [s.keep a o q (fun w=>w.elim z z')] at h;cases h
 hid:=by
  show ι2.x.tail=ι.x
  rw [t.hid,hx]
  rfl
 hidk:=fun a ha=>by
  have z:a≠p:=fun z=>hpx (z▸ha)
  rw [zaz z,t.hidk a (by rw [hx];exact qan _ ha)]
  exact s.hidk a ha
 keep:=fun b q hb n=>by
  have ne:b≠p:=zaO hb hp
  rw [zaz ne]
  refine t.keep b q (s.keep b q hb n) fun z=> ?_
  rcases z with z | z
  ·rcases s.new b z with z | z
   ·exact n (.inl z)
   ·rw [hb] at z;cases z
  ·rw [hx] at z
   rcases qaP.mp z with z | z
   ·exact ne z
   ·exact n (.inr z)
theorem zbJ.shown {ι2:Io} {H2:Hp} {r:List Addr} (hx:ι.x=p::r) (t:zbJ ι H ι2 H2):zbJ ι.show H ι2.show H2 where
 old:=t.old
 new:=t.new
 hid:=by show ι2.x.tail=ι.x.tail;rw [t.hid]
 hidk:=fun a ha=>t.hidk a (List.mem_of_mem_tail ha)
 keep:=fun b q hb n=>by
  by_cases z:b=p
  ·subst z
   rw [t.hidk b (by rw [hx];exact qau)]
   exact hb
  ·refine t.keep b q hb fun w=> ?_
   rcases w with w | w
   ·exact n (.inl w)
   ·rw [hx] at w
    rcases qaP.mp w with w | w
    ·exact z w
    ·exact n (.inr (by show b∈ι.x.tail;rw [hx];exact w))
theorem Fin.bindB {α β:Type} {E:XE} {m:M α} {f:α->M β} {P:β->Io->Hp->Prop} {P':α->Io->Hp->Prop} {ιb:Io} {Hb:Hp} (q:Fin K E ιb Hb ((m>>=f) h) P)
  (conv: ∀ ι' H' h',zbJ ι H ι' H'->za9 K ι' H' h'-> ∃ ι'',zbJ ιb Hb ι'' H'/\za9 K ι'' H' h')
  (k: ∀ a h' ι' H',m h= .ok a h'->zbJ ι H ι' H'->za9 K ι' H' h'->Fin K E ιb Hb (f a h') P->P' a ι' H'):Fin K E ι H (m h) P':=by
 have q':Fin K E ιb Hb (M.bind m f h) P:=q
 unfold M.bind at q'
 cases e:m h with
 | ok a h'=>
  rw [e] at q'
  intro ι' H' s hr
  exact k a h' ι' H' e s hr q'
 | exc c h'=>
  rw [e] at q'
  intro ι' H' s hr
  obtain ⟨ι'',s2,hr2⟩:=conv ι' H' h' s hr
  exact q' _ _ s2 hr2
 | bad=>rw [e] at q';exact q'
end
noncomputable instance:LawfulMonad M:=LawfulMonad.mk' M
 (id_map:=fun x=>by
   funext h
   show M.bind x (fun a=>M.pure (id a)) h=x h
   unfold M.bind M.pure
   cases x h<;>rfl)
 (pure_bind:=fun x f=>rfl)
 (bind_assoc:=fun x f g=>by
   funext h
   show M.bind (M.bind x f) g h=M.bind x (fun a=>M.bind (f a) g) h
   unfold M.bind
   cases x h<;>rfl)
noncomputable def zas (src:List (Option Nat)) (sd:Sd):Sd:=src.map fun o=>o.bind fun i=>(sd[i]?).join
theorem zcF.bStart {K:W.Frag} {ι:Io} {H:Hp} {sd:Sd} {σ:L2.St} {src:List (Option Nat)} (h:zcF K ι H sd σ):zcF K ι H (zas src sd) (bStart src σ):=by
 refine ⟨by unfold zas L2.bStart;rw [qaH,qaH],fun i d e=> ?_⟩
 unfold zas at e
 unfold L2.bStart
 rw [List.getElem?_map] at e ⊢
 cases z:src[i]? with
 | none=>rw [z] at e;cases e
 | some o=>
  rw [z] at e
  cases o with
  | none=>cases e
  | some j=>
   have e:(sd[j]?).join=some d:=by simpa using e
   cases w:sd[j]? with
   | none=>rw [w] at e;cases e
   | some q=>
    rw [w] at e
    have e:q=some d:=by simpa using e
    subst e
    obtain ⟨v,h1,h2⟩:=h.2 j d w
    exact ⟨v,by simp [h1],h2⟩
def zaQ (g:D->Sd->M Sd) (src:List (Option Nat)):Prop:= ∀ x sd h sd1 h1,sd.length=src.length->(∀ (i:Nat),src[i]? = some none->sd[i]? = some none)->g x sd h= .ok sd1 h1->sd1.length=sd.length/\ ∀ (i:Nat) d,src[i]? ≠ some none->sd[i]? = some (some d)->sd1[i]? = some (some d)
def zbL (g:List D->Sd->M Sd) (src:List (Option Nat)):Prop:= ∀ x sd h sd1 h1,g x sd h= .ok sd1 h1->sd1.length=sd.length/\ ∀ (i:Nat) d,src[i]? ≠ some none->sd[i]? = some (some d)->sd1[i]? = some (some d)
theorem zkI {i:Nat} {src:List (Option Nat)} (h:src[i]? = some none): ∀ x sd h sd1 h1,zaD i x sd h= .ok sd1 h1->sd1.length=sd.length/\ ∀ (j:Nat) d,src[j]? ≠ some none->sd[j]? = some (some d)->sd1[j]? = some (some d):=fun x sd h0 sd1 h1 e=>by
 have e:R.ok (sd.set i (some x)) h0= .ok sd1 h1:=e
 cases e
 refine ⟨qaI,fun j d hj e=> ?_⟩
 rw [qao (show i≠j from fun z=>hj (z▸h))]
 exact e
theorem zaQ.name {i:Nat} {src:List (Option Nat)} (h:src[i]? = some none):zaQ (zaD i) src:=fun x sd h0 sd1 h1 _ _ e=>zkI h x sd h0 sd1 h1 e
theorem zbL.nil {src:List (Option Nat)}:zbL zbR src:=fun x sd h sd1 h1 e=>by
 cases x with
 | nil=>
  have e:R.ok sd h= .ok sd1 h1:=e
  cases e
  exact ⟨rfl,fun _ _ _ z=>z⟩
 | cons _ _=>cases (show R.bad=R.ok sd1 h1 from e)
theorem zbL.cons {i:Nat} {gs:List D->Sd->M Sd} {src:List (Option Nat)} (h:src[i]? = some none) (t:zbL gs src):zbL (zaw (zaD i) gs) src:=fun x sd h0 sd1 h1 e=>by
 cases x with
 | nil=>cases (show R.bad=R.ok sd1 h1 from e)
 | cons d r=>
  have e:gs r (sd.set i (some d)) h0= .ok sd1 h1:=e
  obtain ⟨e1,e2⟩:=t r _ h0 sd1 h1 e
  refine ⟨by rw [e1,qaI],fun j d' hj z=>e2 j d' hj ?_⟩
  rw [qao (show i≠j from fun z=>hj (z▸h))]
  exact z
theorem zaQ.tup {n:Nat} {gs:List D->Sd->M Sd} {src:List (Option Nat)} (t:zbL gs src):zaQ (zbO n gs) src:=fun x sd h0 sd1 h1 _ _ e=>by
 cases x with
 | tup ds=>
  have e:(if ds.length=n then gs ds sd else M.bad) h0= .ok sd1 h1:=e
  by_cases hl:ds.length=n
  ·rw [qa4 hl] at e;exact t _ _ _ _ _ e
  ·rw [qa5 hl] at e;cases (show R.bad=R.ok sd1 h1 from e)
 | _=>cases (show R.bad=R.ok sd1 h1 from e)
section
variable {X:Cx} {E:XE} {scope:Scope} {N:List Str} {src:List (Option Nat)} {tg iter elt:Expr} {ifs:List Expr} {pos:Pos}
noncomputable abbrev SCs (X:Cx) (E:XE) (ifs:List Expr) (t:Sd->M Bool):Prop:=PCs X ifs (zfG X.K E t)
theorem zqV:SCs X E [] (fun _=>pure true):=fun pins s σ H Q I ⟨ι,h,sd,L,hh,q⟩=>znu pins s σ H Q I (Fin.out hh q)
theorem zpY {c:Expr} {t:Sd->M Bool} (h:ST X E c t):SCs X E [c] t:=zol h
theorem blk {K:W.Frag} {g:D->Sd->M Sd} {tc:Sd->M Bool} {te:Sd->M D} {J:It} {ds:List D} {ι:Io} {H:Hp} {h:Hh} {sd:Sd} {σ:L2.St} {Q:VK} {p:Addr} (hk:zaQ g src) (L:zcF K ι H sd σ) (hr:za9 K ι H h) (ok:zph K ι H J ds) (hz:ds.length<=sizeLine)
  (q:Fin K E ι H ((do let ys<-zbY (zbl g tc te (zas src sd)) ds;pure (D.lst ys)) h) fun d ι' H'=> ∀ v,Rel K ι' H' d v->Q v H') (hp:H p=none):
  zsQ J (zsI K E g) (zfG K E tc) (zjr K E te) (bStart src σ) H p fun H'=>Q (.ref p) H':=by
 generalize hP:(fun (d:D) (ι':Io) (H':Hp)=> ∀ v,Rel K ι' H' d v->Q v H')=P at q
 generalize hf:zbl g tc te (zas src sd)=f at q
 have hpx:p∉ι.x:=fun z=>hr.nin hp (.inr z)
 have h0len:(zas src sd).length=src.length:=by unfold zas;rw [qaH]
 have h0non: ∀ (i:Nat),src[i]? = some none->(zas src sd)[i]? = some none:=fun i e=>by unfold zas;rw [List.getElem?_map,e];rfl
 refine ⟨fun i m σ' H'=>m=ds.length - i/\i<=ds.length/\ ∃ ι' h' done vs,ι'.x=p::ι.x/\zbJ ι H ι'.show H'/\zcF K ι' H' (zas src sd) σ'/\za9 K ι' H' h'/\H' p=some (.lst vs)/\zat K ι' H' done vs/\done.length<=i/\
     Fin K E ι H ((do let ys<-zbY f (ds.drop i);pure (D.lst (done++ys))) h') P,
   ⟨_,rfl,Nat.zero_le _,ι.hide p,h,[],[],rfl,?_,L.bStart.pass (zgJ hp),hr.hide hp,zaV,zat.nil,qaV _,?_⟩,?_⟩
 ·have:=hr.laidS (o:= .lst []) hp
  exact ⟨this.old,this.new,this.hid,this.hidk,this.keep⟩
 ·simpa using q
 rintro i m σ2 H2 ⟨rfl,hi2,ι2,h2,done,vs,hx2,s2,L2,hr2,e2,rl2,dl2,q2⟩
 have ps2:Pass ι H ι2 H2:=⟨s2.old,fun b o hb n=>⟨s2.keep b o hb n,fun z=>by
   rcases z with z | z
   · exact s2.nin hb n (.inl z)
   · rw [hx2] at z
     rcases qaP.mp z with z | z
     · rw [z,hp] at hb;cases hb
     · exact n (.inr z)⟩⟩
 have hp2:p∈ι2.x:=by rw [hx2];exact qau
 have base: ∀ {ι':Io} {H':Hp},zbJ ι2 H2 ι' H'->zbJ ι H ι'.show H':=fun t=>s2.trans (t.shown hx2)
 by_cases hlt:i<ds.length
 ·right
  refine ⟨ok.go ι2 H2 i ps2 hlt,fun σ' H'=>i+1<=ds.length/\ ∃ ι' h' done vs,ι'.x=p::ι.x/\zbJ ι H ι'.show H'/\zcF K ι' H' (zas src sd) σ'/\za9 K ι' H' h'/\H' p=some (.lst vs)/\zat K ι' H' done vs/\done.length<=i+1/\
    Fin K E ι H ((do let ys<-zbY f (ds.drop (i+1));pure (D.lst (done++ys))) h') P,fun σ' H' z=>⟨ds.length - (i+1),by omega,rfl,z.1,z.2⟩,fun x H3 y=> ?_⟩
  obtain ⟨gr,d,ed,rd⟩:=ok.yld ι2 H2 h2 i x H3 ps2 hr2 hlt y
  obtain ⟨s3,hr3⟩:=gr.step hr2
  have edr:ds.drop i=d::ds.drop (i+1):=by
   rw [List.drop_eq_getElem_cons hlt]
   rw [qaf hlt] at ed
   rw [Option.some.inj ed]
  rw [edr] at q2
  have q3:=q2
  have st3:zbJ ι2 H2 ι2 H3:=s3
  have e3:H3 p=some (.lst vs):=by rw [s3.hidk p hp2];exact e2
  have eq1:(do let ys<-zbY f (d::ds.drop (i+1));pure (D.lst (done++ys)):M D)=(g d (zas src sd)>>=fun sd1=>tc sd1>>=fun c=>if c=true then (te sd1>>=fun y=>zbY f (ds.drop (i+1))>>=fun ys=>pure (D.lst (done++[y]++ys))) else (zbY f (ds.drop (i+1))>>=fun ys=>pure (D.lst (done++ys)))):=by
   rw [zbY]
   rw [<- hf]
   simp only [zbl,bind_assoc]
   refine congrArg _ (funext fun sd1=> ?_)
   refine congrArg _ (funext fun c=> ?_)
   cases c with
   | true=>simp only [if_true,bind_assoc,pure_bind,List.append_assoc,List.cons_append,List.nil_append]
   | false=>simp only [qax,if_false,pure_bind]
  rw [eq1] at q3
  refine ⟨ι2,h2,zas src sd,d,L2.step s3,hr3,rd,?_⟩
  refine Fin.bindB q3 (fun ι' H' h' s hr'=>⟨ι'.show,base (s3.trans s),hr'.show⟩) fun sd4 h4 ι4 H4 e4 s4 hr4 q4 σ4 L4=> ?_
  have hx4:ι4.x=p::ι.x:=by rw [s4.hid];exact hx2
  obtain ⟨k1,k2⟩:=hk d _ h2 sd4 h4 h0len h0non e4
  refine ⟨ι4,h4,sd4,L4,hr4,Fin.bindB q4 (fun ι' H' h' s hr'=>⟨ι'.show,base ((s3.trans s4).trans s),hr'.show⟩) fun c h5 ι5 H5 e5 s5 hr5 q5=> ?_⟩
  have hx5:ι5.x=p::ι.x:=by rw [s5.hid];exact hx4
  have sub: ∀ {ι':Io} {H':Hp},zcF K ι' H' sd4 σ4->zcF K ι' H' (zas src sd) σ4:=fun {ι' H'} z=>⟨by rw [<- k1];exact z.1,fun j d' e=>z.2 j d' (k2 j d' (fun w=>by rw [h0non j w] at e;cases e) e)⟩
  have st5:zbJ ι2 H2 ι5 H5:=(s3.trans s4).trans s5
  cases c with
  | false=>
   exact zpe ⟨hlt,ι5,h5,done,vs,hx5,base st5,sub (L4.step s5),hr5,by rw [st5.hidk p hp2];exact e2,rl2.step st5,Nat.le_succ_of_le dl2,q5⟩
  | true=>
   refine zpj ⟨ι5,h5,sd4,L4.step s5,hr5,Fin.bindB q5 (fun ι' H' h' s hr'=>⟨ι'.show,base (st5.trans s),hr'.show⟩) fun yd h6 ι6 H6 e6 s6 hr6 q6 y ry=> ?_⟩
   have st6:zbJ ι2 H2 ι6 H6:=st5.trans s6
   have hx6:ι6.x=p::ι.x:=by rw [s6.hid];exact hx5
   have hp6:p∈ι6.x:=by rw [hx6];exact qau
   have e6':H6 p=some (.lst vs):=by rw [st6.hidk p hp2];exact e2
   refine ⟨vs,e6',by rw [<- rl2.length];omega,hlt,ι6,h6,done++[yd],vs++[y],hx6,zkE hp hpx hx2 s2 st6,?_,hr6.hid hp6,zaV,?_,?_,?_⟩
   ·exact ((sub (L4.step s5)).step s6).pass (zfT hp6)
   ·exact ((rl2.step st6).append (zat.cons ry zat.nil)).pass (zfT hp6)
   ·rw [qav,List.length_singleton];omega
   ·exact q6
 ·left
  have e:i=ds.length:=by omega
  subst e
  refine ⟨ok.stop ι2 H2 ps2,?_⟩
  rw [List.drop_length] at q2
  have q3:P (.lst done) ι2.show H2:=by
   have:Fin K E ι H ((pure (D.lst (done++[])):M D) h2) P:=q2
   rw [List.append_nil] at this
   exact this _ _ s2 hr2.show
  rw [<- hP] at q3
  refine q3 (.ref p) ?_
  simp only [Rel]
  refine ⟨p,vs,rfl,⟨e2,fun z=> ?_⟩,rl2.pass zgF⟩
  rcases z with z | z
  ·exact (hr2.hidt p (by rw [hx2];exact qau)).2 z
  ·exact hpx (by have z:p∈ι2.x.tail:=z;rw [hx2] at z;exact z)
noncomputable def zaI (fi:Sd->M (List D)) (g:D->Sd->M Sd) (tc:Sd->M Bool) (te:Sd->M D) (src:List (Option Nat)):Sd->M D:=fun sd=>do
 let ds<-fi sd
 fits ds.length
 let ys<-zbY (zbl g tc te (zas src sd)) ds
 pure (D.lst ys)
theorem zkq {K:W.Frag} {fi:Sd->M (List D)} {g:D->Sd->M Sd} {tc:Sd->M Bool} {te:Sd->M D} (hk:zaQ g src) (σ:L2.St) (H:Hp) (Q:VK) (q:zjr K E (zaI fi g tc te src) σ H Q):
  zoP (zth K E fi) (zsI K E g) (zfG K E tc) (zjr K E te) src σ H Q:=by
 obtain ⟨ι,h,sd,L,hh,q⟩:=q
 refine ⟨ι,h,sd,L,hh,Fin.bind q fun ds h1 ι1 H1 e1 s1 hr1 q1 J ok p hp=> ?_⟩
 obtain ⟨z,q2⟩:=Fin.fits q1
 exact blk hk (L.step s1) hr1 ok z q2 hp
theorem zjY {fi:Sd->M (List D)} {g:D->Sd->M Sd} {tc:Sd->M Bool} {te:Sd->M D} (B:BOk X scope N src) (hk:zaQ g src) (hi:SI X E tg iter fi)
  (hg: ∀ s H fp,SG (cxB X scope N s H fp) E tg g) (ht: ∀ s H fp,SCs (cxB X scope N s H fp) E ifs tc) (he: ∀ s H fp,SE (cxB X scope N s H fp) E elt te)
  (hs: ∀ x,foldedSetIterable iter X.env x=pure x:=by intro _;rfl):SE X E (.ListComp elt [⟨tg,iter,ifs,0⟩] scope pos) (zaI fi g tc te src):=
 PE.imp (zoX B hi hg ht he hs) (zkq hk)
theorem zlp {fi:Sd->M (List D)} {g:D->Sd->M Sd} {tc:Sd->M Bool} {te:Sd->M D} (i:Nat) {y:Str} {py spos:Pos} (B:BOk X scope N src) (hk:zaQ g src) (hi:SI X E tg iter fi)
  (hg: ∀ s H fp,SG (cxB X scope N s H fp) E tg g) (ht: ∀ s H fp,SCs (cxB X scope N s H fp) E ifs tc) (he: ∀ s H fp,SE (cxB X scope N s H fp) E elt te)
  (hN:X.N.Nodup) (hy:X.N[i]? = some y) (hx:Loc X.env.scope y) (hf:X.fn y=true\/X.env.scope.names.lookup y=some .local) (hsw:swapsWith (.ListComp elt [⟨tg,iter,ifs,0⟩] scope pos) (some (.Name y py)) spos.line X.env=pure true)
  (hs: ∀ x,foldedSetIterable iter X.env x=pure x:=by intro _;rfl):SS X E (.Assign [.Name y py] (.ListComp elt [⟨tg,iter,ifs,0⟩] scope pos) spos) (fun sd=>do let d<-zaI fi g tc te src sd;pure (.nx (sd.set i (some d)))):=by
 refine PS.imp (zjc B hi hg ht he hN hy hx hsw hf hs) fun D0 σ H ⟨ι,h,sd,L,hh,q⟩=>zkq hk σ H _ ⟨ι,h,sd,L,hh,Fin.bind q fun d h1 ι1 H1 e1 s1 hr1 q1 v rv=> ?_⟩
 exact Fin.out (E:=E) (P:=zgg X.K D0) hr1 q1 _ ((L.step s1).set rv i)
end
section
variable {K:W.Frag} {ι:Io} {H:Hp} {h:Hh} {n:Nat} {a:Addr}
theorem zeG {o:HO} (hn:ι.c[n]? = some (some a)):Pass ι H ι (upd H a o):=⟨fun _ _ z=> .inl z,fun b o' hb nb=>⟨by rw [zaz (show b≠a from fun z=>nb (.inl (z▸List.mem_of_getElem? hn)))];exact hb,nb⟩⟩
theorem za9.cellS {o:HO} (hr:za9 K ι H h) (hn:ι.c[n]? = some (some a)):zbJ ι H ι (upd H a o):=
 ⟨fun _ _ z=> .inl z,fun _ z=> .inl z,rfl,fun b hb=>zaz fun z=>(hr.hidt b hb).2 (z▸List.mem_of_getElem? hn),fun b o' hb nb=>((zeG hn).keep b o' hb nb).1⟩
theorem za9.cellO {c':C} {o':HO} (hr:za9 K ι H h) (hn:ι.c[n]? = some (some a)) (co:CO K ι H c' o'):za9 K ι (upd H a o') (h.set n c'):=by
 refine ⟨by rw [qaI];exact hr.len,hr.inj,fun m b c hm hc=> ?_,fun m hm=> ?_,fun b hb=>⟨?_,(hr.hidt b hb).2⟩⟩
 ·by_cases e:n=m
  ·subst e
   rw [hn] at hm
   cases hm
   rw [qai (by rw [hr.len];exact (qac.mp hn).1)] at hc
   cases hc
   exact ⟨o',zaV,co.pass (zeG hn)⟩
  ·rw [qao e] at hc
   obtain ⟨o2,e2,e3⟩:=hr.at_ m b c hm hc
   have ne:b≠a:=fun z=>by subst z;exact e (hr.inj n m b hn hm)
   exact ⟨o2,by rw [zaz ne];exact e2,e3.pass (zeG hn)⟩
 ·have e:n≠m:=fun z=>by subst z;rw [hn] at hm;cases hm
  rw [qao e]
  exact hr.dead m hm
 ·rw [zaz (show b≠a from fun z=>(hr.hidt b hb).2 (z▸List.mem_of_getElem? hn))]
  exact (hr.hidt b hb).1
theorem za9.cell {ds':List D} {vs':List V} (hr:za9 K ι H h) (hn:ι.c[n]? = some (some a)) (rl:zat K ι H ds' vs'):za9 K ι (upd H a (.lst vs')) (h.set n (.lst ds')):=hr.cellO hn ⟨vs',rfl,rl⟩
theorem za9.read {ds:List D} {v:V} (hr:za9 K ι H h) (r:Rel K ι H (.cel n) v) (e:h[n]? = some (.lst ds)): ∃ a vs,v= .ref a/\ι.c[n]? = some (some a)/\H a=some (.lst vs)/\zat K ι H ds vs:=by
 simp only [Rel] at r
 obtain ⟨a,e1,r | r⟩:=r
 ·obtain ⟨o,e3,vs,rfl,e4⟩:=hr.at_ n a _ r e
  exact ⟨a,vs,e1,r,e3,e4⟩
 ·rw [hr.dead n r] at e
  cases e
end
noncomputable def zan (n:Nat):M (List D):=fun h=>match h[n]? with
 | some (.lst ds)=> .ok ds h
 | _=> .bad
noncomputable def zbz (n:Nat) (ds:List D):M Unit:=fun h=> .ok () (h.set n (.lst ds))
theorem zcx {n:Nat} {h h':Hh} {ds:List D} (e:zan n h= .ok ds h'):h'=h/\h[n]? = some (.lst ds):=by
 unfold zan at e
 cases z:h[n]? with
 | none=>rw [z] at e;cases e
 | some c=>
  rw [z] at e
  cases c with
  | lst xs=>cases e;exact ⟨rfl,rfl⟩
  | dic _=>cases e
  | dead=>cases e
noncomputable def ofO {α:Type}:Option α->M α
 | some a=>pure a
 | none=>M.bad
noncomputable def dIx:D->D->M D:=fun x y=>match x,y with
 | .tup ds,.int i=>ofO (atI ds i)
 | .lst ds,.int i=>ofO (atI ds i)
 | .scr ds,.int i=>ofO (atI ds i)
 | .cel n,.int i=>do let ds<-zan n;ofO (atI ds i)
 | _,_=>M.bad
theorem zfF {K:W.Frag} {ι:Io} {H:Hp} {ds:List D} {vs:List V} {i:Int} {d:D} (rl:zat K ι H ds vs) (e:atI ds i=some d): ∃ v,atI vs i=some v/\Rel K ι H d v:=by
 unfold atI at e ⊢
 rw [<- rl.length]
 cases z:ixN ds.length i with
 | none=>rw [z] at e;cases e
 | some j=>
  rw [z] at e
  have e:ds[j]? = some d:=e
  exact rl.get e
section
variable {X:Cx} {E:XE}
theorem Fin.ofO {α:Type} {K:W.Frag} {ι:Io} {H:Hp} {h:Hh} {o:Option α} {P:α->Io->Hp->Prop} (hr:za9 K ι H h) (q:Fin K E ι H (L3.ofO o h) P): ∃ a,o=some a/\P a ι H:=by
 cases o with
 | none=>exact qa0 q
 | some a=>exact ⟨a,rfl,Fin.out hr q⟩
theorem ztB:IxR X (zdr X.K E dIx):=by
 refine IxR.imp (zjU.or zrb) fun x y H Q ⟨ι,h,d1,d2,r1,r2,hr,q⟩=> ?_
 cases d2 with
 | int i=>
  simp only [Rel] at r2
  cases d1 with
  | tup ds=>
   obtain ⟨a,vs,e,h1,h2⟩:=zdt r1
   obtain ⟨d,e1,q⟩:=Fin.ofO hr q
   obtain ⟨v,e2,rv⟩:=zfF h2 e1
   exact .inr ⟨a,vs,i,v,e,r2,h1,e2,q v rv⟩
  | lst ds=>
   obtain ⟨a,vs,e,h1,h2⟩:=zdG r1
   obtain ⟨d,e1,q⟩:=Fin.ofO hr q
   obtain ⟨v,e2,rv⟩:=zfF h2 e1
   exact .inl ⟨a,vs,i,v,e,r2,h1,e2,q v rv⟩
  | scr ds=>
   obtain ⟨a,vs,e,h1,h2⟩:=zjL r1
   obtain ⟨d,e1,q⟩:=Fin.ofO hr q
   obtain ⟨v,e2,rv⟩:=zfF h2 e1
   exact .inl ⟨a,vs,i,v,e,r2,h1,e2,q v rv⟩
  | cel n=>
   have q:Fin X.K E ι H ((zan n>>=fun ds=>L3.ofO (atI ds i)) h) _:=q
   have q':Fin X.K E ι H (M.bind (zan n) (fun ds=>L3.ofO (atI ds i)) h) _:=q
   unfold M.bind at q'
   cases z:zan n h with
   | bad=>rw [z] at q';exact qa0 q'
   | exc c h'=>unfold zan at z;split at z<;>cases z
   | ok ds h'=>
    rw [z] at q'
    obtain ⟨rfl,z2⟩:=zcx z
    obtain ⟨a,vs,e,hn,hH,rl⟩:=hr.read r1 z2
    obtain ⟨d,e1,q⟩:=Fin.ofO hr q'
    obtain ⟨v,e2,rv⟩:=zfF rl e1
    exact .inl ⟨a,vs,i,v,e,r2,SqL.of hH,e2,q v rv⟩
  | _=>exact qa0 q
 | _=>cases d1<;>exact qa0 q
noncomputable def zln (o i d:D):M Unit:=match o,i with
 | .cel n,.int k=>do
  let ds<-zan n
  let j<-ofO (ixN ds.length k)
  zbz n (ds.set j d)
 | _,_=>M.bad
theorem zqW {o i:Expr} {pos:Pos} {fo fi:Sd->M D} (hp: ∀ {t:zpq},zoU X t->PG X (.Subscript o i pos) (ztd (zjr X.K E fo) (zjr X.K E fi) t)):
  SG X E (.Subscript o i pos) (fun d sd=>do let x<-fo sd;let y<-fi sd;zln x y d;pure sd):=by
 refine PG.imp (hp zmt) fun v σ H Q ⟨ι,h,sd,d,L,hr,rd,q⟩=>⟨ι,h,sd,L,hr,Fin.bind q fun x h1 ι1 H1 e1 s1 hr1 q1 xv rx=> ?_⟩
 refine ⟨ι1,h1,sd,L.step s1,hr1,Fin.bind q1 fun y h2 ι2 H2 e2 s2 hr2 q2 yv ry=> ?_⟩
 cases x with
 | cel n=>
  cases y with
  | int k=>
   have rx2:=rx.step s2
   have q3:Fin X.K E ι2 H2 ((zan n>>=fun ds=>(ofO (ixN ds.length k)>>=fun j=>zbz n (ds.set j d)>>=fun _=>pure sd)) h2) (fun sd' ι' H'=> ∀ σ',zcF X.K ι' H' sd' σ'->Q σ' H'):=by
    have e:(do zln (.cel n) (.int k) d;pure sd:M Sd)=(zan n>>=fun ds=>(ofO (ixN ds.length k)>>=fun j=>zbz n (ds.set j d)>>=fun _=>pure sd)):=by
     show ((zan n>>=fun ds=>(ofO (ixN ds.length k)>>=fun j=>zbz n (ds.set j d)))>>=fun _=>pure sd)=_
     simp only [bind_assoc]
    rw [<- e]
    exact q2
   have q':Fin X.K E ι2 H2 (M.bind (zan n) (fun ds=>(ofO (ixN ds.length k)>>=fun j=>zbz n (ds.set j d)>>=fun _=>pure sd)) h2) _:=q3
   unfold M.bind at q'
   cases z:zan n h2 with
   | bad=>rw [z] at q';exact qa0 q'
   | exc c h'=>unfold zan at z;split at z<;>cases z
   | ok ds h'=>
    rw [z] at q'
    obtain ⟨rfl,z2⟩:=zcx z
    obtain ⟨a,vs,e,hn,hH,rl⟩:=hr2.read rx2 z2
    simp only [Rel] at ry
    have q4:Fin X.K E ι2 H2 (M.bind (ofO (ixN ds.length k)) (fun j=>zbz n (ds.set j d)>>=fun _=>pure sd) h') _:=q'
    unfold M.bind at q4
    cases z3:ixN ds.length k with
    | none=>rw [z3] at q4;exact qa0 q4
    | some j=>
     rw [z3] at q4
     have q5:Fin X.K E ι2 H2 (R.ok sd (h'.set n (.lst (ds.set j d)))) (fun sd' ι' H'=> ∀ σ',zcF X.K ι' H' sd' σ'->Q σ' H'):=q4
     refine ⟨a,vs,k,j,e,ry,hH,by rw [<- rl.length];exact z3,?_⟩
     have rd2:=(rd.step s1).step s2
     exact q5 ι2 _ (hr2.cellS hn) (hr2.cell hn (rl.set rd2 j)) σ (((L.step s1).step s2).step (hr2.cellS hn))
  | _=>exact qa0 q2
 | _=>cases y<;>exact qa0 q2
end
noncomputable abbrev E0x:XE:=fun _ _=>False
noncomputable def zb6 (K:W.Frag) (n:Nat) (F:List D->M D):Sp:=fun vs H Q _=>vs.length=n/\ ∃ ι h ds,zat K ι H ds vs/\za9 K ι H h/\Fin K E0x ι H (F ds h) fun d ι' H'=> ∀ v,Rel K ι' H' d v->Q v H'
noncomputable def zfv (n:Nat) (ds:List D):Sd:=ds.map some++List.replicate (n - ds.length) none
noncomputable def zcO:Out->M D
 | .nx _=>pure .non
 | .rt d=>pure d
 | _=>M.bad
noncomputable def zcQ (n:Nat) (G:Sd->M Out) (ds:List D):M D:=do let o<-G (zfv n ds);zcO o
theorem zd7 {K:W.Frag} {ι:Io} {H:Hp} {ds:List D} {vs:List V} {N:List Str} (h:zat K ι H ds vs):zcF K ι H (zfv N.length ds) (L2.zdY N vs):=by
 have hl:=h.length
 unfold zfv L2.zdY
 refine ⟨by simp [hl],fun i d e=> ?_⟩
 by_cases hi:i<ds.length
 ·rw [qad (by simpa using hi),List.getElem?_map] at e
  cases z:ds[i]? with
  | none=>rw [z] at e;cases e
  | some d'=>
   rw [z] at e
   cases e
   obtain ⟨v,h1,h2⟩:=h.get z
   exact ⟨v,by rw [qad (by rw [qaH, <-hl];exact hi),List.getElem?_map,h1];rfl,h2⟩
 ·rw [qaa (by simpa using hi),List.getElem?_replicate] at e
  split at e<;>cases e
section
variable {P:Program} {w:World} {K:W.Frag} {mg:Str->Option Value} {base:Heap}
theorem zbv {x qual:Str} {st:Stmt} {f:Addr} {fd:FuncData} {N ps:List Str} {k:Nat} {G:Sd->M Out} (F:Fun K x qual st f fd) (S:zaq N ps (zae st))
  (hb: ∀ (cdv:Value) (A:Around) (outer:List Env) (s:Shared) (H:Hp) (E:XK),zds k (A.deeper (envOfC qual (zae st) s.heap.objs.size f cdv))->SSs (zhp CX0 P w K mg base N qual (zae st) f cdv A outer s H E).nox E0x (zcq st) G):
  zbw P w K mg base CX0 (k+1) f fd ps (zb6 K ps.length (zcQ N.length G)):=by
 refine F.ok S (fun vs H Q E h=>h.1) fun cdv A outer s H vs Q E hr ⟨hl,ι,h,ds,rl,hh,q⟩=>⟨_,hb cdv A outer s H E hr,ι,h,zfv N.length ds,zd7 rl,hh,?_⟩
 refine Fin.bind q fun o h1 ι1 H1 e1 s1 hr1 q1=> ?_
 cases o with
 | nx sd=>exact fun σ' _=>Fin.out hr1 q1 _ (by simp [Rel])
 | rt d=>exact fun v rv=>Fin.out hr1 q1 v rv
 | bk sd=>exact qa0 q1
 | ct sd=>exact qa0 q1
end
section
variable {X:Cx} {e:Expr} {es:List Expr} {pos p:Pos}
noncomputable def zau (n:Nat) (F:List D->M D) (ds:List D):M D:=if ds.length=n then F ds else M.bad
theorem zo5 {k:Nat} {f:Addr} {fd:FuncData} {ps:List Str} {n:Nat} {F:List D->M D} {fs:Sd->M (List D)} {x:Str} (G:zbw X.prog X.w X.K X.mg X.base CX0 k f fd ps (zb6 X.K n F)) (hr:zds k X.A) (hg:Gl X x) (hm:X.mg x=some (.ref f)) (hk:W.keepIn X.K (.ref f)=true) (hb:zaH X.K fd ps [])
  (ha:SA X E0x (e::es) fs) (hdb:(x==("__debug__":Str))=false:=by decide) (he:starEach (e::es) X.env=(false,eval e X.env)::starEach es X.env:=by rfl) (hpl:(backTo pos (starEach es X.env)).any (·.1)=false:=by rfl):
  SE X E0x (.Call (.Name x p) (e::es) [] pos) (fun sd=>do let ds<-fs sd;zau n F ds):=by
 refine PE.imp (zhN G hr hg hm hk hb (dvs:=[]) .nil (E:=fun _ _ _=>False) zp4 ha hdb he hpl) fun σ H Q ⟨ι,h,sd,L,hh,q⟩=>⟨ι,h,sd,L,hh,Fin.bind q fun ds h1 ι1 H1 e1 s1 hr1 q1 vs rv=> ?_⟩
 show zb6 X.K n F (vs++[]) H1 Q _
 rw [List.append_nil]
 unfold zau at q1
 by_cases hl:ds.length=n
 ·rw [qa4 hl] at q1
  exact ⟨by rw [<- rv.length];exact hl,ι1,h1,ds,rv,hr1,q1⟩
 ·rw [qa5 hl] at q1
  exact qa0 q1
end
section
variable {X:Cx} {E:XE}
theorem Fin.guard {α:Type} {K:W.Frag} {ι:Io} {H:Hp} {h:Hh} {c:Prop} [Decidable c] {f:M α} {P:α->Io->Hp->Prop} (q:Fin K E ι H ((if c then f else M.bad) h) P):c/\Fin K E ι H (f h) P:=by
 by_cases hc:c
 ·rw [qa4 hc] at q;exact ⟨hc,q⟩
 ·rw [qa5 hc] at q;exact qa0 q
theorem zlL:OpR X (binaryOp .Add) (fun x y H Q=> ∃ a b ys,x= .ref a/\y= .ref b/\SqT X.K H a []/\SqT X.K H b ys/\Q (.ref b) H):=by
 intro pins s σ H x y v u Q I rx ry h
 obtain ⟨a,b,ys,rfl,rfl,ha,hb,q⟩:=h
 cases rx
 cases ry
 obtain ⟨its,r1,p1,_⟩:=I.tuple ha
 obtain ⟨its2,r2,p2,_⟩:=I.tuple hb
 cases r1
 obtain ⟨⟨cls,dd,data,sl⟩,ho,hc,n,hd⟩:=id p1
 obtain ⟨⟨cls2,dd2,data2,sl2⟩,ho2,hc2,n2,hd2⟩:=id p2
 simp only at hc hd hc2 hd2
 subst hc hd hc2 hd2
 exact concat_meets ⟨_,ho,rfl⟩ ⟨_,ho2,rfl⟩ noFill_tuple_add seq_tuple_add PySem.F.slot_tuple_add PySem.F.entry_tuple_add (PySem.F.args_tuple_add_2 _ _)
   (tuple_addW0 a b _ _ n n2 dd dd2 sl sl2 (by simp)) ⟨ho,ho2,⟨.ref b,H,I,rfl,q⟩⟩
noncomputable def zdJ (x y:D):M D:=match x,y with
 | .int i,.int j=>pure (.int (i+j))
 | .tup xs,.tup ys=>do fits (xs.length+ys.length);pure (.tup (xs++ys))
 | .lst xs,.lst ys=>do fits (xs.length+ys.length);pure (.lst (xs++ys))
 | .str x,.str y=>do fits (x.length+y.length);pure (.str (x++y))
 | _,_=>M.bad
theorem zaU:OpR X (binaryOp .Add) (zdr X.K E zdJ):=by
 refine OpR.imp (zpr.or (zlL.or (zn0.or (zp0.or zjl)))) fun x y H Q ⟨ι,h,d1,d2,r1,r2,hr,q⟩=> ?_
 unfold zdJ at q
 split at q
 ·simp only [Rel] at r1 r2
  exact .inl ⟨_,_,r1,r2,Fin.out hr q _ (by simp [Rel])⟩
 ·rename_i xs ys
  right
  obtain ⟨a,vs,e,h1,h2⟩:=zdt r1
  obtain ⟨b,ws,e',h1',h2'⟩:=zdt r2
  obtain ⟨z,q⟩:=Fin.fits q
  cases xs with
  | nil=>
   simp only [zat] at h2
   subst h2
   exact .inl ⟨a,b,ws,e,e',h1,h1',Fin.out hr q _ (by rw [<- e'];exact r2)⟩
  | cons x0 xr=>
   refine .inr (.inl ⟨a,b,vs,ws,e,e',h1,h1',fun z=> ?_,by rw [<- h2.length, <-h2'.length];exact z,fun z=> ?_,fun z p hp=>zrC hr (h2.append h2') q hp⟩)
   ·subst z
    have:=h2.length
    cases this
   ·subst z
    have:=h2'.length
    cases ys with
    | nil=>rw [List.append_nil] at q;exact Fin.out hr q _ (by rw [<- e];exact r1)
    | cons _ _=>cases this
 ·rename_i xs ys
  right;right;right;left
  simp only [Rel] at r1 r2
  obtain ⟨a,vs,e,h1,h2⟩:=r1
  obtain ⟨b,ws,e',h1',h2'⟩:=r2
  obtain ⟨z,q⟩:=Fin.fits q
  exact ⟨a,b,vs,ws,e,e',h1.1,h1'.1,by rw [<- h2.length, <-h2'.length];exact z,fun p hp=>zrJ hr (h2.append h2') q hp⟩
 ·simp only [Rel] at r1 r2
  obtain ⟨z,q⟩:=Fin.fits q
  exact .inr (.inr (.inr (.inr ⟨_,_,r1,r2,z,Fin.out hr q _ (by simp [Rel])⟩)))
 ·exact qa0 q
noncomputable def dII (C:Int->Int->Bool) (g:Int->Int->D) (x y:D):M D:=match x,y with
 | .int i,.int j=>if C i j=true then pure (g i j) else M.bad
 | _,_=>M.bad
theorem ziV {f:Value->Value->Sem Value} {C:Int->Int->Bool} {C':Int->Int->Prop} {g:Int->Int->V} {g':Int->Int->D} (ho:OpR X f (rI C' g)) (hc: ∀ i j,C i j=true->C' i j) (hg: ∀ i j ι H,Rel X.K ι H (g' i j) (g i j)):OpR X f (zdr X.K E (dII C g')):=by
 refine OpR.imp ho fun x y H Q ⟨ι,h,d1,d2,r1,r2,hr,q⟩=> ?_
 unfold dII at q
 split at q
 ·simp only [Rel] at r1 r2
  obtain ⟨c,q⟩:=Fin.guard q
  exact ⟨_,_,r1,r2,hc _ _ c,Fin.out hr q _ (hg _ _ _ _)⟩
 ·exact qa0 q
theorem ziy {f:Value->Value->Sem Value} {g:Int->Int->V} {g':Int->Int->D} (ho:OpR X f (rI0 g)) (hg: ∀ i j ι H,Rel X.K ι H (g' i j) (g i j)):OpR X f (zdr X.K E (dII (fun _ _=>true) g')):=by
 refine OpR.imp ho fun x y H Q ⟨ι,h,d1,d2,r1,r2,hr,q⟩=> ?_
 unfold dII at q
 split at q
 ·simp only [Rel] at r1 r2
  obtain ⟨c,q⟩:=Fin.guard q
  exact ⟨_,_,r1,r2,Fin.out hr q _ (hg _ _ _ _)⟩
 ·exact qa0 q
noncomputable def zrL:=dII (fun _ _=>true) fun i j=> .int (i - j)
theorem zlt:OpR X (binaryOp .Sub) (zdr X.K E zrL):=ziy zpF fun _ _ _ _=>by simp [Rel]
noncomputable def zcs (i:Int):Bool:=decide (-(2^64)<i) && decide (i<2^64)
theorem ze2 {i:Int} (h:zcs i=true): -(2^64)<i/\i<2^64:=by unfold zcs at h;simpa using h
theorem zmH:OpR X (binaryOp .FloorDiv) (rI (fun _ j=>0<j/\j<2^64) fun i j=> .int (i / j)):=opI fun i j _ _ _ _ _ hc q=>by
 refine floordiv_int (by omega) (by rw [Int.fdiv_eq_ediv_of_nonneg _ (by omega)];exact q) (.inl (PyProof.noPylong_of_log2 ?_))
 have h1:j.natAbs<2^64:=by omega
 have h0:j.natAbs≠0:=by omega
 exact Nat.lt_trans ((Nat.log2_lt h0).mpr h1) (by decide)
noncomputable def zkC:=dII (fun _ j=>decide (0<j) && decide (j<2^64)) fun i j=> .int (i / j)
theorem zfO:OpR X (binaryOp .FloorDiv) (zdr X.K E zkC):=ziV zmH (fun i j h=>by simpa using h) fun _ _ _ _=>by simp [Rel]
noncomputable def zlV:=dII (fun _ j=>decide (0<j)) fun i j=> .int (i % j)
theorem zdA:OpR X (binaryOp .Mod) (zdr X.K E zlV):=ziV zrn (fun i j h=>by simpa using h) fun _ _ _ _=>by simp [Rel]
noncomputable def zpb (i j:Int):Bool:=decide (0<=j) && decide (j<=1000000) && decide (i.natAbs<2^64)
noncomputable def zo6:=dII zpb fun i j=> .int (i^j.toNat)
theorem ziB {i j:Int} (h:zpb i j=true):zrD i j:=by unfold zpb at h;simpa [zrD,and_assoc] using h
theorem zkN:OpR X (binaryOp .Pow) (zdr X.K E zo6):=ziV zrh (fun _ _=>ziB) fun _ _ _ _=>by simp [Rel]
noncomputable def zsT:=dII zpb fun i j=> .int (i*2^j.toNat)
theorem znF:OpR X (binaryOp .LShift) (zdr X.K E zsT):=ziV zpt (fun _ _=>ziB) fun _ _ _ _=>by simp [Rel]
noncomputable def zsH:=dII (fun _ j=>decide (0<=j)) fun i j=> .int (i / 2^j.toNat)
theorem zo1:OpR X (binaryOp .RShift) (zdr X.K E zsH):=ziV zqs (fun i j h=>by simpa using h) fun _ _ _ _=>by simp [Rel]
noncomputable def zsS:=dII (fun _ _=>true) fun i j=> .int (Builtin.bitAnd i j)
theorem zoC:OpR X (binaryOp .BitAnd) (zdr X.K E zsS):=ziy zqN fun _ _ _ _=>by simp [Rel]
noncomputable def dLt:=dII (fun _ _=>true) fun i j=> .bl (decide (i<j))
theorem zgE:OpR X (compareOp .Lt) (zdr X.K E dLt):=ziy zrZ fun _ _ _ _=>by simp [Rel]
noncomputable def dLe:=dII (fun _ _=>true) fun i j=> .bl (decide (i<=j))
noncomputable def dGt:=dII (fun _ _=>true) fun i j=> .bl (decide (j<i))
theorem zgH:OpR X (compareOp .Gt) (zdr X.K E dGt):=ziy zsP fun _ _ _ _=>by simp [Rel]
noncomputable def dGe:=dII (fun _ _=>true) fun i j=> .bl (decide (j<=i))
noncomputable def zrH:D->M D
 | .int i=>pure (.int (-i))
 | _=>M.bad
theorem zrc {a:Expr} {pos:Pos} {fa:Sd->M D} (ha:SE X E a fa):SE X E (.UnaryOp .USub a pos) (fun sd=>do let x<-fa sd;zrH x):=by
 refine PE.imp (zs2 zqY ha) fun σ H Q ⟨ι,h,sd,L,hh,q⟩=>⟨ι,h,sd,L,hh,Fin.bind q fun d h1 ι1 H1 e1 s1 hr1 q1 v rv=> ?_⟩
 cases d with
 | int i=>simp only [Rel] at rv;exact ⟨i,rv,Fin.out hr1 q1 _ (by simp [Rel])⟩
 | _=>exact qa0 q1
mutual
noncomputable def pd:D->Option PyData
 | .non=>some .none
 | .bl b=>some (.bool b)
 | .int i=>some (.int i)
 | .str x=>some (.str x)
 | .tup xs=>(pdL xs).map .tuple
 | .lst xs=>(pdL xs).map .list
 | .scr xs=>(pdL xs).map .list
 | _=>none
noncomputable def pdL:List D->Option (List PyData)
 | []=>some []
 | x::xs=>match pd x,pdL xs with
  | some a,some r=>some (a::r)
  | _,_=>none
end
mutual
theorem zeL {pins:List (Addr×Obj)} {σ:L2.St} {H:Hp} {s:Shared} {ι:Io} (I:Inv X pins σ H s): ∀ {d:D} {v:V} {u:Value} {p:PyData},Rel X.K ι H d v->zby v u->pd d=some p-> ∃ as,Reads s.heap u p as
 | .non,v,u,p,r,ru,e=>by simp only [Rel] at r;subst r;cases ru;cases e;exact ⟨_,.none⟩
 | .bl b,v,u,p,r,ru,e=>by simp only [Rel] at r;subst r;cases ru;cases e;exact ⟨_,.bool _⟩
 | .int i,v,u,p,r,ru,e=>by simp only [Rel] at r;subst r;obtain ⟨t,rfl⟩:=ru;cases e;exact ⟨_,.int _ _⟩
 | .str i,v,u,p,r,ru,e=>by simp only [Rel] at r;subst r;obtain ⟨t,rfl⟩:=ru;cases e;exact ⟨_,.str _ _⟩
 | .tup ds,v,u,p,r,ru,e=>by
  obtain ⟨a,vs,rfl,h1,h2⟩:=zdt r
  cases ru
  obtain ⟨its,rv,pl,_⟩:=I.tuple h1
  obtain ⟨o,ho,hc,n,hd⟩:=pl
  unfold pd at e
  cases z:pdL ds with
  | none=>rw [z] at e;cases e
  | some ps=>
   rw [z] at e;cases e
   obtain ⟨as,q⟩:=zgT I h2 rv z
   exact ⟨_,.tuple ho hc hd (by simpa using q)⟩
 | .lst ds,v,u,p,r,ru,e=>by
  obtain ⟨a,vs,rfl,h1,h2⟩:=zdG r
  cases ru
  obtain ⟨its,rv,pl,_⟩:=I.list h1
  obtain ⟨o,ho,hc,n,hd⟩:=pl.isList
  unfold pd at e
  cases z:pdL ds with
  | none=>rw [z] at e;cases e
  | some ps=>
   rw [z] at e;cases e
   obtain ⟨as,q⟩:=zgT I h2 rv z
   exact ⟨_,.list ho hc hd (by simpa using q)⟩
 | .scr ds,v,u,p,r,ru,e=>by
  obtain ⟨a,vs,rfl,h1,h2⟩:=zjL r
  cases ru
  obtain ⟨its,rv,pl,_⟩:=I.list h1
  obtain ⟨o,ho,hc,n,hd⟩:=pl.isList
  unfold pd at e
  cases z:pdL ds with
  | none=>rw [z] at e;cases e
  | some ps=>
   rw [z] at e;cases e
   obtain ⟨as,q⟩:=zgT I h2 rv z
   exact ⟨_,.list ho hc hd (by simpa using q)⟩
 | .cel n,_,_,_,_,_,e=>by cases e
 | .set xs,_,_,_,_,_,e=>by cases e
 | .dct,_,_,_,_,_,e=>by cases e
 | .fn _,_,_,_,_,_,e=>by cases e
 | .exn _,_,_,_,_,_,e=>by cases e
theorem zgT {pins:List (Addr×Obj)} {σ:L2.St} {H:Hp} {s:Shared} {ι:Io} (I:Inv X pins σ H s): ∀ {ds:List D} {vs:List V} {us:List Value} {ps:List PyData},zat X.K ι H ds vs->za2 vs us->pdL ds=some ps-> ∃ as,ReadsAll s.heap us ps as
 | [],vs,us,ps,r,ru,e=>by simp only [zat] at r;subst r;cases ru;cases e;exact ⟨_,.nil⟩
 | d::ds,vs,us,ps,r,ru,e=>by
  simp only [zat] at r
  obtain ⟨v,vr,rfl,r1,r2⟩:=r
  cases ru with
  | cons ru1 ru2=>
   unfold pdL at e
   cases z:pd d with
   | none=>rw [z] at e;cases e
   | some a=>
    cases z2:pdL ds with
    | none=>rw [z,z2] at e;cases e
    | some b=>
     rw [z,z2] at e
     cases e
     obtain ⟨as,q1⟩:=zeL I r1 ru1 z
     obtain ⟨bs,q2⟩:=zgT I r2 ru2 z2
     exact ⟨_,.cons q1 q2⟩
end
noncomputable def zfM (a b:PyData):Bool:=a.canLay0 && b.canLay0 && decide (min a.depth b.depth<=60)
noncomputable def zjt (neg:Bool) (x y:D):M D:=match pd x,pd y with
 | some a,some b=>if zfM a b=true then pure (.bl (if neg then !PyData.eqv a b else PyData.eqv a b)) else M.bad
 | _,_=>M.bad
noncomputable def dEq:=zjt false
noncomputable def dNe:=zjt true
theorem zfX {a b:PyData} (h:zfM a b=true):a.canLay0=true/\b.canLay0=true/\min a.depth b.depth<=60:=by unfold zfM at h;simpa [and_assoc] using h
theorem ziN {K:W.Frag} {ι:Io} {H:Hp} {h:Hh} {neg:Bool} {x y:D} {P:D->Io->Hp->Prop} (q:Fin K E ι H (zjt neg x y h) P): ∃ a b,pd x=some a/\pd y=some b/\zfM a b=true/\Fin K E ι H ((pure (.bl (if neg then !PyData.eqv a b else PyData.eqv a b)):M D) h) P:=by
 unfold zjt at q
 cases e1:pd x with
 | none=>rw [e1] at q;exact qa0 q
 | some a=>
  cases e2:pd y with
  | none=>rw [e1,e2] at q;exact qa0 q
  | some b=>
   rw [e1,e2] at q
   obtain ⟨c,q⟩:=Fin.guard q
   exact ⟨a,b,rfl,rfl,c,q⟩
theorem ze5 (hu:X.A.units+60<cLine):OpR X (compareOp .Eq) (zdr X.K E dEq):=by
 intro pins s σ H x y v u Q I rx ry ⟨ι,h,d1,d2,r1,r2,hr,q⟩
 obtain ⟨a,b,e1,e2,c,q2⟩:=ziN q
 obtain ⟨c1,c2,c3⟩:=zfX c
 obtain ⟨as,ra⟩:=zeL I r1 rx e1
 obtain ⟨bs,rb⟩:=zeL I r2 ry e2
 exact SeqAt.compareEq_reads ra rb c1 c2 (by omega) ⟨.bl _,H,I,rfl,Fin.out hr q2 (.bl _) (by simp [Rel])⟩
theorem zdB (hu:X.A.units+60<cLine):OpR X (compareOp .NotEq) (zdr X.K E dNe):=by
 intro pins s σ H x y v u Q I rx ry ⟨ι,h,d1,d2,r1,r2,hr,q⟩
 obtain ⟨a,b,e1,e2,c,q2⟩:=ziN q
 obtain ⟨c1,c2,c3⟩:=zfX c
 obtain ⟨as,ra⟩:=zeL I r1 rx e1
 obtain ⟨bs,rb⟩:=zeL I r2 ry e2
 exact SeqAt.compareNe_reads ra rb c1 c2 (by omega) ⟨.bl _,H,I,rfl,Fin.out hr q2 (.bl _) (by simp [Rel])⟩
noncomputable def zgR (a:PyData) (xs:List PyData):Bool:=a.canLay0 && PyData.canLayAll0 xs && decide (min (PyData.depthAll xs) a.depth<=50)
theorem zen {a:PyData} {xs:List PyData} (h:zgR a xs=true):a.canLay0=true/\PyData.canLayAll0 xs=true/\min (PyData.depthAll xs) a.depth<=50:=by unfold zgR at h;simpa [and_assoc] using h
noncomputable def zlB (neg:Bool) (x c:D):M D:=match pd x,c with
 | some a,.tup ds=>match pdL ds with
  | some xs=>if zgR a xs=true then pure (.bl (if neg then !xs.any (fun y=>PyData.eqv y a) else xs.any fun y=>PyData.eqv y a)) else M.bad
  | none=>M.bad
 | some a,.lst ds=>match pdL ds with
  | some xs=>if zgR a xs=true then pure (.bl (if neg then !xs.any (fun y=>PyData.eqv y a) else xs.any fun y=>PyData.eqv y a)) else M.bad
  | none=>M.bad
 | _,_=>M.bad
noncomputable def dIn:=zlB false
noncomputable def zhb:=zlB true
theorem ziD {K:W.Frag} {ι:Io} {H:Hp} {h:Hh} {neg:Bool} {x c:D} {P:D->Io->Hp->Prop} (q:Fin K E ι H (zlB neg x c h) P): ∃ a ds xs,pd x=some a/\pdL ds=some xs/\(c= .tup ds\/c= .lst ds)/\zgR a xs=true/\
  Fin K E ι H ((pure (.bl (if neg then !xs.any (fun y=>PyData.eqv y a) else xs.any fun y=>PyData.eqv y a)):M D) h) P:=by
 unfold zlB at q
 cases e1:pd x with
 | none=>rw [e1] at q;exact qa0 q
 | some a=>
  rw [e1] at q
  cases c with
  | tup ds=>
   dsimp only at q
   cases e2:pdL ds with
   | none=>rw [e2] at q;exact qa0 q
   | some xs=>
    rw [e2] at q
    obtain ⟨c,q⟩:=Fin.guard q
    exact ⟨a,ds,xs,rfl,e2,.inl rfl,c,q⟩
  | lst ds=>
   dsimp only at q
   cases e2:pdL ds with
   | none=>rw [e2] at q;exact qa0 q
   | some xs=>
    rw [e2] at q
    obtain ⟨c,q⟩:=Fin.guard q
    exact ⟨a,ds,xs,rfl,e2,.inr rfl,c,q⟩
  | _=>exact qa0 q
theorem zpW (hu:X.A.units+60<cLine):OpR X (compareOp .In) (zdr X.K E dIn):=by
 intro pins s σ H x y v u Q I rx ry ⟨ι,h,d1,d2,r1,r2,hr,q⟩
 obtain ⟨a,ds,xs,e1,e2,ec,c,q2⟩:=ziD q
 obtain ⟨c1,c2,c3⟩:=zen c
 obtain ⟨as,ra⟩:=zeL I r1 rx e1
 rcases ec with rfl | rfl
 ·obtain ⟨bs,rb⟩:=zeL I r2 ry (p:= .tuple xs) (by unfold pd;rw [e2];rfl)
  exact SeqAt.in_tuple_reads rb ra c2 c1 (by omega) ⟨.bl _,H,I,rfl,Fin.out hr q2 (.bl _) (by simp [Rel])⟩
 ·obtain ⟨bs,rb⟩:=zeL I r2 ry (p:= .list xs) (by unfold pd;rw [e2];rfl)
  exact SeqAt.in_list_reads rb ra c2 c1 (by omega) ⟨.bl _,H,I,rfl,Fin.out hr q2 (.bl _) (by simp [Rel])⟩
theorem zgB (hu:X.A.units+60<cLine):OpR X (compareOp .NotIn) (zdr X.K E zhb):=by
 intro pins s σ H x y v u Q I rx ry ⟨ι,h,d1,d2,r1,r2,hr,q⟩
 obtain ⟨a,ds,xs,e1,e2,ec,c,q2⟩:=ziD q
 obtain ⟨c1,c2,c3⟩:=zen c
 obtain ⟨as,ra⟩:=zeL I r1 rx e1
 rcases ec with rfl | rfl
 ·obtain ⟨bs,rb⟩:=zeL I r2 ry (p:= .tuple xs) (by unfold pd;rw [e2];rfl)
  exact SeqAt.notIn_tuple_reads rb ra c2 c1 (by omega) ⟨.bl _,H,I,rfl,Fin.out hr q2 (.bl _) (by simp [Rel])⟩
 ·obtain ⟨bs,rb⟩:=zeL I r2 ry (p:= .list xs) (by unfold pd;rw [e2];rfl)
  exact SeqAt.notIn_list_reads rb ra c2 c1 (by omega) ⟨.bl _,H,I,rfl,Fin.out hr q2 (.bl _) (by simp [Rel])⟩
end
end L3
namespace HT
open PySem PySem.Spec PyProof.Rows L2
section
variable {prog:Program} {w:World} {A:Around} {E:Value->Shared->Prop} {s:Shared}
end
end HT
namespace L2
open PySem PySem.Spec PyProof.Rows
section
variable {X:Cx} {e:Expr} {te:TE} {pos p2:Pos}
theorem zel:fillsNumberSlot (.type "tuple") "mul"=pure false:=
 PySem.fillsNumberSlot_seq (id:="tuple.__mul__") (r:=some (.builtin "tuple.__rmul__")) F.slot_tuple_mul.lookup (by decide +kernel) F.slot_tuple_rmul.lookup (by decide +kernel)
theorem zg7:seqRepeat? (.type "tuple")=pure (some (.builtin "tuple.__mul__")):=by
 unfold seqRepeat?
 rw [PySem.seqSlot_of (T:="tuple") (name:="__mul__") (id:="tuple.__mul__") F.slot_tuple_mul.lookup (by decide +kernel),PySem.seqSlot_of (T:="tuple") (name:="__rmul__") (id:="tuple.__rmul__") F.slot_tuple_rmul.lookup (by decide +kernel)]
 rfl
theorem zff (k:Int) (t:Tok) (l:Addr) (items:Array Value) (n:Nat) (dd:Option Addr) (sl:Array (Option Value)):
  Meets (Builtin.«int.__rmul__» ⟨[.int k t,.ref l],[]⟩) (fun _ R s=>s.heap.get? l=some {cls:= .type "tuple",dict:=dd,data:= .seq items n,slots:=sl}/\R (.ok (.ret Value.notImplemented)) s):=
 .of_wp fun prog w A R s h=>by obtain ⟨hp,g,d,tk,os⟩:=s;obtain ⟨hl,h⟩:=h;wp_walk;exact ⟨_,rfl,h⟩
theorem zjT (k:Int) (t:Tok) (l:Addr) (items:Array Value) (n:Nat) (dd:Option Addr) (sl:Array (Option Value)) (hne:items.isEmpty=false) (hk:2<=k) (hk2:k<1000) (hz:items.size*k.toNat<=sizeLine):
  Meets (Builtin.«tuple.__mul__» ⟨[.ref l,.int k t],[]⟩) (fun _ R s=>s.heap.get? l=some {cls:= .type "tuple",dict:=dd,data:= .seq items n,slots:=sl}/\
    R (.ok (.ret (.ref s.heap.objs.size))) {s with heap:=s.heap.push {cls:= .type "tuple",data:= .seq ((List.replicate k.toNat items).foldl (· ++ ·) #[])}}):=
 .of_wp fun prog w A R s h=>by
  obtain ⟨hp,g,d,tk,os⟩:=s;obtain ⟨hl,h⟩:=h
  unfold Builtin.«tuple.__mul__» 
  wp_walk
  have hk63: ¬(decide (k< -2^63) || decide (k>=2^63))=true:=by
   rw [Bool.or_eq_true,qaD,qaD]
   omega
  rw [qa5 hk63]
  dsimp only
  have ht:IsTup hp l items:=⟨_,hl,rfl,_,rfl⟩
  refine qaW (tupleItemsOf_ ht ?_)
  have h1: ¬(items.isEmpty || k==1)=true:=by
   rw [hne,Bool.false_or,beq_iff_eq]
   omega
  rw [qa5 h1]
  have h2: ¬(decide (k<=0) || items.isEmpty)=true:=by
   rw [hne,Bool.or_false,qaD]
   omega
  rw [qa5 h2]
  have hk0:((k.toNat:Nat):Int)=k:=Int.toNat_of_nonneg (by omega)
  have hm:((items.size:Nat):Int)*k=((items.size*k.toNat:Nat):Int):=by rw [Int.natCast_mul,hk0]
  have hsl:(sizeLine:Nat)=16777216:=by decide
  have h3: ¬((items.size:Int)*k>(2^63 - 1) / 8):=by
   rw [hm]
   omega
  rw [qa5 h3]
  have h4: ¬Builtin.Tuple.tupleTooMany ((items.size:Int)*k)=true:=by
   unfold Builtin.Tuple.tupleTooMany
   rw [hm,qaD]
   omega
  rw [qa5 h4]
  have hsz:sizeOk (.seq (List.foldl (fun x1 x2=>x1++x2) #[] (List.replicate k.toNat items))):=by
   show (List.foldl (fun x1 x2=>x1++x2) #[] (List.replicate k.toNat items)).size<=sizeLine
   have e: ∀ (m:Nat) (acc:Array Value),(List.foldl (fun x1 x2=>x1++x2) acc (List.replicate m items)).size=acc.size+m*items.size:=by
    intro m
    induction m with
    | zero=>intro acc;simp
    | succ m ih=>intro acc;rw [List.replicate_succ,List.foldl_cons,ih,Array.size_append,Nat.succ_mul];omega
   rw [e,Nat.mul_comm]
   simpa using hz
  exact qaW (m:=Builtin.Tuple.tupleExact _) (qaC (qaX ⟨_,rfl,h⟩) hsz)
theorem znK:OpR X (binaryOp .Mult) (fun x y H Q=> ∃ a k xs,x= .ref a/\y= .int k/\SqT X.K H a xs/\xs≠[]/\2<=k/\k<1000/\xs.length*k.toNat<=sizeLine/\ ∀ p,H p=none->Q (.ref p) (upd H p (.tup (List.replicate k.toNat xs).flatten))):=by
 intro pins s σ H x y v u Q I rx ry h
 obtain ⟨a,k,xs,rfl,rfl,hx,hne,h1,h2,hz,q⟩:=h
 cases rx
 obtain ⟨t,rfl⟩:=ry
 obtain ⟨its,r,ht,_⟩:=I.tuple hx
 have hl:=r.length
 obtain ⟨⟨cls,dd,data,sl⟩,ho,hc,n,hd⟩:=id ht
 simp only at hc hd
 subst hc hd
 have hemp:its.toArray.isEmpty=false:=by
  cases its with
  | nil=>cases r;exact absurd rfl hne
  | cons _ _=>simp
 refine wpAny_binaryOp_repeat_ref (T:="tuple") (U:="int") (by decide) ⟨_,ho,rfl⟩ (fun s'=>typeIs_int s' k t) zel F.fills_int_mul F.slot_int_rmul zg7 F.slot_int_index.lookup
  (call_meets F.slot_int_rmul (typeIs_int s k t) F.entry_int_rmul (F.args_int_rmul_2 _ _) (zff k t a its.toArray n dd sl)
    ⟨ho,rfl,⟨_,ho,rfl⟩,call_meets F.slot_tuple_mul ⟨_,ho,rfl⟩ F.entry_tuple_mul (F.args_tuple_mul_2 _ _) (zjT k t a its.toArray n dd sl hemp h1 h2 (by rw [qaA, <-hl];exact hz)) ⟨ho,?_⟩⟩)
 have hnew:List.foldl (fun x1 x2=>x1++x2) #[] (List.replicate k.toNat its.toArray)=(List.replicate k.toNat its).flatten.toArray:=by
  have:=zg5 its k.toNat []
  rw [List.nil_append] at this
  exact this
 rw [hnew]
 refine ⟨.ref _,_,I.laid (t':=s.toks) (o:= .tup (List.replicate k.toNat xs).flatten) (fun b ob q=>qag _ q) (qaV _) ?_,rfl,q _ (I.hok.fresh (qaV _))⟩
 exact ⟨by rw [zoY,Nat.mul_comm];exact hz,_,r.rep k.toNat,IsTup.new _ _⟩
end
end L2
namespace LT
open PySem PySem.Spec PyProof.Rows
noncomputable abbrev Up (xs:Array Nat):Prop:=xs.toList.Pairwise (· < ·)
theorem Up.lt {xs:Array Nat} (h:Up xs) {i j:Nat} {a b:Nat} (hi:xs[i]? = some a) (hj:xs[j]? = some b) (hij:i<j):a<b:=by
 have hi':xs.toList[i]? = some a:=by simpa using hi
 have hj':xs.toList[j]? = some b:=by simpa using hj
 obtain ⟨h1,e1⟩:=qac.mp hi'
 obtain ⟨h2,e2⟩:=qac.mp hj'
 have:=List.pairwise_iff_getElem.mp h i j h1 h2 hij
 rw [e1,e2] at this
 exact this
theorem zgc {xs:Array Nat} (h:Up xs) (j:Nat): ∀ (fuel lo hi:Nat),hi - lo<=fuel->lo<=hi->hi<=xs.size->(∀ i a,i<lo->xs[i]? = some a->a<j)->(∀ i a,hi<=i->xs[i]? = some a->j<=a)->
  let r:=SetTable.below.go xs j fuel lo hi
  r<=xs.size/\(∀ i a,i<r->xs[i]? = some a->a<j)/\(∀ i a,r<=i->xs[i]? = some a->j<=a)
 | 0,lo,hi,hf,hl,hs,h1,h2=>by
  have e:lo=hi:=by omega
  subst e
  exact ⟨hs,h1,h2⟩
 | fuel+1,lo,hi,hf,hl,hs,h1,h2=>by
  unfold SetTable.below.go
  by_cases hlt:lo<hi
  ·rw [qa4 hlt]
   have hm:(lo+hi) / 2<xs.size:=by omega
   have em:xs[(lo+hi) / 2]? = some xs[(lo+hi) / 2]:=by simp [hm]
   have eg:xs.getD ((lo+hi) / 2) j=xs[(lo+hi) / 2]:=by simp [Array.getD,hm]
   dsimp only
   by_cases hc:xs.getD ((lo+hi) / 2) j<j
   ·rw [qa4 hc]
    refine zgc h j fuel _ hi (by omega) (by omega) hs (fun i a hi' e=> ?_) h2
    rw [eg] at hc
    by_cases z:i=(lo+hi) / 2
    ·subst z;rw [em] at e;cases e;exact hc
    ·exact Nat.lt_trans (h.lt e em (by omega)) hc
   ·rw [qa5 hc]
    refine zgc h j fuel lo _ (by omega) (by omega) (by omega) h1 fun i a hi' e=> ?_
    rw [eg] at hc
    by_cases z:i=(lo+hi) / 2
    ·subst z;rw [em] at e;cases e;omega
    ·have:=h.lt em e (by omega)
     omega
  ·rw [qa5 hlt]
   have e:lo=hi:=by omega
   subst e
   exact ⟨hs,h1,h2⟩
theorem zf0 {xs:Array Nat} (h:Up xs) (j:Nat):SetTable.below xs j<=xs.size/\(∀ i a,i<SetTable.below xs j->xs[i]? = some a->a<j)/\(∀ i a,SetTable.below xs j<=i->xs[i]? = some a->j<=a):=
 zgc h j xs.size 0 xs.size (by omega) (Nat.zero_le _) (qaV _) (fun _ _ z=>absurd z (Nat.not_lt_zero _)) fun i a z e=>by
  have:=(qab.mp e).1
  omega
theorem zfx {xs:Array Nat} (h:Up xs) {k a:Nat} (e:xs[k]? = some a):SetTable.below xs (a+1)=k+1:=by
 obtain ⟨h1,h2,h3⟩:=zf0 h (a+1)
 by_cases c:SetTable.below xs (a+1)<=k
 ·have:=h3 k a c e
  omega
 ·by_cases c2:k+1<SetTable.below xs (a+1)
  ·have hl:k+1<xs.size:=by omega
   have e2:xs[k+1]? = some xs[k+1]:=by simp [hl]
   have a1:=h2 (k+1) _ c2 e2
   have a2:=h.lt e e2 (by omega)
   omega
  ·omega
theorem zfr {xs:Array Nat} (h:Up xs):SetTable.below xs 0=0:=by
 obtain ⟨h1,h2,h3⟩:=zf0 h 0
 by_cases c:SetTable.below xs 0=0
 ·exact c
 ·have hl:0<xs.size:=by omega
  exact absurd (h2 0 _ (by omega) (show xs[0]? = some xs[0] by simp [hl])) (Nat.not_lt_zero _)
theorem zkt {xs:Array Nat} (h:Up xs) {j:Nat} (hn:xs[SetTable.below xs j]? ≠ some j):Up (SetTable.insertAt xs (SetTable.below xs j) j):=by
 obtain ⟨h1,h2,h3⟩:=zf0 h j
 show (SetTable.insertAt xs (SetTable.below xs j) j).toList.Pairwise (· < ·)
 rw [SetTable.toList_insertAt]
 rw [qaq]
 have hsplit:xs.toList.take (SetTable.below xs j)++xs.toList.drop (SetTable.below xs j)=xs.toList:=List.take_append_drop ..
 have hp:(xs.toList.take (SetTable.below xs j)++xs.toList.drop (SetTable.below xs j)).Pairwise (· < ·):=by rw [hsplit];exact h
 obtain ⟨p1,p2,p3⟩:=qaq.mp hp
 have tk: ∀ a∈xs.toList.take (SetTable.below xs j),a<j:=fun a ha=>by
  obtain ⟨i,hi⟩:=List.mem_iff_getElem?.mp ha
  rw [List.getElem?_take] at hi
  split at hi
  ·rename_i hlt
   exact h2 i a hlt (by simpa using hi)
  ·cases hi
 have dr: ∀ a∈xs.toList.drop (SetTable.below xs j),j<a:=fun a ha=>by
  obtain ⟨i,hi⟩:=List.mem_iff_getElem?.mp ha
  rw [List.getElem?_drop] at hi
  have hi':xs[SetTable.below xs j+i]? = some a:=by simpa using hi
  have a1:=h3 _ a (by omega) hi'
  rcases Nat.lt_or_eq_of_le a1 with z | z
  ·exact z
  ·subst z
   exfalso
   cases i with
   | zero=>exact hn hi'
   | succ i=>
    have hl:=(qab.mp hi').1
    have e0:xs[SetTable.below xs j]? = some xs[SetTable.below xs j]:=by
     have:SetTable.below xs j<xs.size:=by omega
     simp [this]
    have b1:=h3 _ _ (qaV _) e0
    have b2:=h.lt e0 hi' (by omega)
    omega
 refine ⟨p1,qay.mpr ⟨dr,p2⟩,fun a ha b hb=> ?_⟩
 rcases qaP.mp hb with z | z
 ·rw [z];exact tk a ha
 ·exact p3 a ha b z
structure zhI (t:SetTable) (led:Bool):Prop where
 up:Up t.place
 nod:t.dummies= #[]
 led:t.led=led
theorem ziQ {j:Nat}:SetTable.has #[] j=false:=by
 unfold SetTable.has
 simp
theorem zkb {t:SetTable} {led:Bool} (g:zhI t led) {j:Nat} (h:t.slot j= .empty):t.place[SetTable.below t.place j]? ≠ some j:=fun e=>by
 unfold SetTable.slot at h
 dsimp only at h
 rw [e] at h
 simp at h
theorem ziF {t:SetTable} {led:Bool} (g:zhI t led) (f:Nat->Int) (h:Int): ∀ (fuel:Nat) (p:SetTable.Probe) (j:Nat) (d:Option Nat),p.dummy=none->SetTable.probe.go t f h fuel p=some (.empty j d)->t.slot j= .empty/\d=none
 | 0,_,_,_,_,e=>by cases e
 | fuel+1,p,j,d,hp,e=>by
  unfold SetTable.probe.go at e
  have adv: ∀ q:SetTable.Probe,q.dummy=none->(t.advance q).dummy=none:=fun q hq=>by
   unfold SetTable.advance
   split<;>exact hq
  split at e
  ·rename_i hs
   cases e
   exact ⟨hs,hp⟩
  ·rename_i hs
   exfalso
   unfold SetTable.slot at hs
   dsimp only at hs
   rw [g.nod,ziQ] at hs
   split at hs<;>simp at hs
  ·split at e
   ·cases e
   ·exact ziF g f h fuel _ j d (adv p hp) e
theorem zfR {t:SetTable} {led:Bool} (g:zhI t led) {h:Int} {j:Nat} {b:Bool} (e:t.freeSlot h=some (j,b)):t.place[SetTable.below t.place j]? ≠ some j:=by
 unfold SetTable.freeSlot at e
 split at e
 ·rename_i j' d' hpr
  obtain ⟨h1,h2⟩:=ziF g _ _ _ _ _ _ rfl hpr
  subst h2
  cases e
  exact zkb g h1
 ·cases e
theorem zmv (n:Nat):Up (Array.range n):=by
 show (Array.range n).toList.Pairwise (· < ·)
 rw [Array.toList_range]
 exact List.pairwise_lt_range
theorem zcg {t:SetTable} {led:Bool} (g:zhI t led) (n:Nat):zhI (t.standIn n) led:=⟨zmv n,rfl,g.led⟩
theorem zhT {t:SetTable} {led:Bool} (g:zhI t led) (es:Array (Int×Value)) (h:Int) (x:Value):zhI (layNew t es h x).2.1 led:=by
 unfold layNew
 split
 ·rename_i slot wasDummy e
  have g2:zhI (t.put slot).1 led:=by
   refine ⟨zkt g.up (zfR g e),?_,g.led⟩
   show (if SetTable.has t.dummies slot then _ else t.dummies)= #[]
   rw [g.nod,ziQ]
   rfl
  show zhI ((t.put slot).1.orStandIn _) led
  unfold SetTable.orStandIn
  split
  ·exact g2
  ·exact zcg g2 _
 ·exact zcg g _
theorem zjw {mask finger moves:Nat} {led plain:Bool} {hs:Array Int} {t:SetTable} {o:Array Nat} (e:SetTable.laid mask finger moves led plain hs=some (t,o)):zhI t led:=by
 unfold SetTable.laid at e
 cases z:SetTable.layClean mask hs with
 | none=>rw [z] at e;cases e
 | some owner=>
  rw [z] at e
  have e:some (({mask,place:=(((List.range (mask+1)).filterMap fun j=>(owner.getD j none).map (j, ·)).map (·.1)).toArray,dummies:= #[],finger,led,moves,plain}:SetTable),_)=some (t,o):=e
  cases e
  refine ⟨?_,rfl,rfl⟩
  show (((List.range (mask+1)).filterMap fun j=>(owner.getD j none).map (j, ·)).map (·.1)).toArray.toList.Pairwise (· < ·)
  rw [List.toList_toArray,List.map_filterMap]
  have sub:List.Sublist ((List.range (mask+1)).filterMap fun j=>((owner.getD j none).map (j, ·)).map (·.1)) (List.range (mask+1)):=by
   generalize List.range (mask+1)=l
   induction l with
   | nil=>exact .slnil
   | cons a r ih=>
    rw [qat]
    cases q:owner.getD a none with
    | none=>exact ih.cons a
    | some v=>exact ih.cons₂ a
  exact List.pairwise_lt_range.sublist sub
theorem zfW {t:SetTable} {led:Bool} (g:zhI t led) (es:Array (Int×Value)) (wanted:Nat):zhI (relayAll t es wanted).2.1 led:=by
 unfold relayAll
 split
 ·rename_i t' order e
  have g2:zhI t' t.led:=zjw e
  rw [g.led] at g2
  dsimp only
  split
  ·exact g2
  ·exact zcg g _
 ·exact zcg g _
noncomputable def zcE (w:World):Bool:= !w.params.followText "set-order"
def zgi (prog:Program) (w:World) (h:Heap) (a:Addr) (S:Int->Bool) (n:Nat):Prop:=
 ∃ ob es ep tb,(h.get? a=some ob/\ob.ExactSet/\ob.data= .set es ep tb)/\ElemsOf (intKind prog w) es.toList/\(∀ k,S k=true↔ ∃ e∈es.toList,(intKind prog w).is k e.2=true)/\
  (es.size<scanBound/\tb.fits es.size=true/\es.size=n)/\zhI tb (zcE w)
theorem zgi.move {prog:Program} {w:World} {h h':Heap} {a:Addr} {S S':Int->Bool} {n n':Nat} (g:zgi prog w h a S n) (k: ∀ ob,h.get? a=some ob->h'.get? a=some ob) (e: ∀ k,S k=S' k) (en:n=n'):zgi prog w h' a S' n':=by
 obtain ⟨ob,es,ep,tb,⟨h1,h2,h3⟩,h4,h5,⟨h6,h7,h8⟩,h9⟩:=g
 exact ⟨ob,es,ep,tb,⟨k ob h1,h2,h3⟩,h4,fun z=>by rw [<- e z];exact h5 z,⟨h6,h7,h8.trans en⟩,h9⟩
section
variable {prog:Program} {w:World} {A:Around} {E:Value->Shared->Prop} {s:Shared}
theorem stored {a:Addr} {ob:Obj} {es es':Array (Int×Value)} {ep:Nat} {tb tb':SetTable} {S:Int->Bool} {R:Unit->Shared->Prop} (ho:s.heap.get? a=some ob) (hx:ob.ExactSet) (hd:ob.data= .set es ep tb)
  (hE:ElemsOf (intKind prog w) es'.toList) (hS: ∀ k,S k=true↔ ∃ e∈es'.toList,(intKind prog w).is k e.2=true) (hb:es'.size<scanBound) (hf:tb'.fits es'.size=true) (hg:zhI tb' (zcE w))
  (q: ∀ h',Heap.SameBut a s.heap h'->h'.get? a=some {ob with data:= .set es' (ep+1) tb'}->zgi prog w h' a S es'.size->R () {s with heap:=h'}):wpAny (model prog w) A (storeSet a es' tb') R E s:=by
 have put:=putSet_of es' tb' hd
 have at1:(s.heap.update a (Obj.putSet es' tb')).get? a=some {ob with data:= .set es' (ep+1) tb'}:=by
  have z:=qal (Obj.putSet es' tb') ho (by rw [put];rfl)
  rwa [put] at z
 exact wpAny_storeSet_of ho hd (q _ (Heap.SameBut.update ..) at1 ⟨_,es',ep+1,tb',⟨at1,hx,rfl⟩,hE,hS,⟨hb,hf,rfl⟩,hg⟩) (fits_of_scanBound hb)
theorem ztM {a:Addr} {S:Int->Bool} {n:Nat} {k:Int} {t:Tok} {Q:Bool->Shared->Prop} (g:zgi prog w s.heap a S n) (room:n+1<scanBound)
  (q: ∀ h' b,Heap.SameBut a s.heap h'->zgi prog w h' a (fun z=>S z || decide (z=k)) (if S k then n else n+1)->Q b {s with heap:=h'}):
  wpAny (model prog w) A (setAddHashed a (.int k t) ((intKind prog w).hash k)) Q E s:=by
 have kis:(intKind prog w).is k (.int k t)=true:=intKind_is _ _ _ _
 obtain ⟨ob,es,ep,tb,⟨h1,h2,h3⟩,h4,h5,⟨h6,h7,h8⟩,h9⟩:=g
 have scn:(Value.int k t).scannable=true:=rfl
 unfold setAddHashed setAddHashedIn
 refine qaO (qaW (wpAny_setState_of h1 h3 h7 ?_))
 dsimp only
 rw [qa4 (byScan_of scn h6 h4)]
 refine qaW ?_
 unfold setAddByScan
 refine qaW (wpAny_rule (qaW (wpAny_setScan_of kis h1 h3 h7 h4 ?_)))
 cases fi:List.findIdx? (fun e=>(intKind prog w).is k e.2) es.toList with
 | some j=>
  obtain ⟨lj,pj,_⟩:=List.findIdx?_eq_some_iff_getElem.mp fi
  have inS:S k=true:=(h5 k).mpr ⟨_,List.getElem_mem lj,pj⟩
  refine qaX (qaX ?_)
  have z:=q s.heap false (Heap.SameBut.refl ..) ⟨ob,es,ep,tb,⟨h1,h2,h3⟩,h4,fun y=> ?_,⟨h6,h7,by rw [inS];exact h8⟩,h9⟩
  ·exact z
  ·rw [<- h5 y,Bool.or_eq_true,qaD]
   exact ⟨fun c=>c.elim id fun c=>by rw [c];exact inS,.inl⟩
 | none=>
  have noS:S k=false:=by
   rw [<- Bool.not_eq_true,h5 k]
   rintro ⟨e,he,pe⟩
   have:=List.findIdx?_eq_none_iff.mp fi e he
   rw [pe] at this
   cases this
  have L1:=layNew_perm tb es ((intKind prog w).hash k) (.int k t)
  have L2:=layNew_fits tb es ((intKind prog w).hash k) (.int k t)
  have L3:=zhT h9 es ((intKind prog w).hash k) (.int k t)
  generalize hl:layNew tb es ((intKind prog w).hash k) (.int k t)=ln at L1 L2 L3 ⊢
  obtain ⟨es1,tb1,wd,gv⟩:=ln
  dsimp only at L1 L2 L3 ⊢
  rw [Array.toList_push] at L1
  have E1:ElemsOf (intKind prog w) es1.toList:=(h4.push kis scn).perm L1
  have M1: ∀ y,(S y || decide (y=k))=true↔ ∃ e∈es1.toList,(intKind prog w).is y e.2=true:=mem_push_iff kis h5 L1
  have Z1:es1.size=n+1:=by
   have z:=L1.length_eq
   rw [qav,qas,qas] at z
   rw [z,h8];rfl
  have B1:es1.size<scanBound:=by rw [Z1];exact room
  have quiet: ∀ (b:Bool) (s1:Shared) (R:Unit->Shared->Prop),R () s1->wpAny (model prog w) A (match b with | true=>rule "set.scan.the-table-gave-way" | false=>pure ()) R E s1:=fun b s1 R z=>by
   cases b
   ·exact qaX z
   ·exact wpAny_rule z
  have fin: ∀ (s1:Shared) (h':Heap),s1={s with heap:=h'}->Heap.SameBut a s.heap h'->zgi prog w h' a (fun y=>S y || decide (y=k)) es1.size->Q true s1:=fun s1 h' e1 sb gg=>by
   subst e1
   have z:=q h' true sb
   rw [noS] at z
   exact z (by rw [Z1] at gg;exact gg)
  refine qaW (quiet _ _ _ ?_)
  have tail: ∀ (gw:Bool->Sem Unit),(∀ (b:Bool) (s1:Shared) (R:Unit->Shared->Prop),R () s1->wpAny (model prog w) A (gw b) R E s1)->wpAny (model prog w) A (do
      storeSet a es1 tb1
      if (!wd && tb1.tooFull)=true then do
        gw (relayAll tb1 es1 (SetTable.grown es1.size)).2.2
        storeSet a (relayAll tb1 es1 (SetTable.grown es1.size)).1 (relayAll tb1 es1 (SetTable.grown es1.size)).2.1
        pure (some true)
      else pure (some true)) (fun r s'=>wpAny (model prog w) A (match r with | some b=>pure b | none=>setAddHashedIn a (.int k t) ((intKind prog w).hash k) 99999) Q E s') E s:=by
   intro gw hgw
   refine qaW (stored h1 h2 h3 E1 M1 B1 L2 L3 fun h' sb at1 gg=> ?_)
   by_cases full:(!wd && tb1.tooFull)=true
   ·rw [qa4 full]
    have P2:=relayAll_perm tb1 es1 (SetTable.grown es1.size)
    have F2:=relayAll_fits tb1 es1 (SetTable.grown es1.size)
    have G2:=zfW L3 es1 (SetTable.grown es1.size)
    generalize relayAll tb1 es1 (SetTable.grown es1.size)=rl at P2 F2 G2 ⊢
    obtain ⟨es2,tb2,gv2⟩:=rl
    dsimp only at P2 F2 G2 ⊢
    have Z2:es2.size=es1.size:=by
     have z:=P2.length_eq
     rwa [qas,qas] at z
    refine qaW (hgw _ _ _ (qaW (stored (s:={s with heap:=h'}) (S:=fun y=>S y || decide (y=k)) at1 h2 rfl (E1.perm P2) (fun y=>(M1 y).trans ?_) (by rw [Z2];exact B1) F2 G2 fun h'' sb2 _ gg2=> ?_)))
    ·exact ⟨fun ⟨e,he,pe⟩=>⟨e,P2.mem_iff.mpr he,pe⟩,fun ⟨e,he,pe⟩=>⟨e,P2.mem_iff.mp he,pe⟩⟩
    ·exact qaX (qaX (fin _ h'' rfl (sb.trans sb2) (by rw [Z2] at gg2;exact gg2)))
   ·rw [qa5 full]
    exact qaX (qaX (fin _ h' rfl sb gg))
  split
  ·rw [hashByValue_scannable 8 scn]
   refine qaW (qaX ?_)
   exact tail _ fun b s1 R z=>by cases b<;>first | exact qaX z | exact wpAny_rule z
  ·refine qaW (qaX ?_)
   exact tail _ fun b s1 R z=>by cases b<;>first | exact qaX z | exact wpAny_rule z
end
section
variable {prog:Program} {w:World} {A:Around} {R:Result->Shared->Prop} {it:Addr} {fp wr:List Addr} {G:Array GenState->Array GenState->Prop} {n:Nat} {P:Nat->Value->Prop} {St:Nat->Shared->Prop}
theorem zte (W:WalksS prog w A.in1 it fp wr G n P St) (a:Addr) (ha:a∉fp) (val:Nat->Int) (hval: ∀ i v,P i v-> ∃ t,v= .int (val i) t) (room:n+1<scanBound):
  ∀ (left i:Nat) (s:Shared),n - i=left->i<=n->St i s->zgi prog w s.heap a (fun z=>(firstMet val i).any (· == z)) (firstMet val i).length->
   (∀ s',Moved (a::wr) G s s'->zgi prog w s'.heap a (fun z=>(firstMet val n).any (· == z)) (firstMet val n).length->R (.ok (.ret .none)) s')->
   codeAny (model prog w) A (.builtin "set.update.loop" ⟨[.ref a,.ref it],[]⟩) R s:=by
 have awr:a∉wr:=fun z=>ha (W.sub _ z)
 have more: ∀ b∈wr,b∈a::wr:=fun b z=> .tail _ z
 intro left
 induction left with
 | zero=>
  intro i s hleft hin st g q
  obtain rfl:i=n:=by omega
  refine codeAny_builtin F.entry_set_update_loop ?_
  rw [qap F.plain_set_update_loop _]
  show wpAny _ _ (pyNext (.ref it)>>=_) _ _ _
  refine qaW (W.done s _ _ st fun s' mv=> ?_)
  exact qaX (q s' (mv.mono more) (g.move (fun ob e=>mv.heap a ob awr e) (fun _=>rfl) rfl))
 | succ left ih=>
  intro i s hleft hin st g q
  have hi:i<n:=by omega
  refine codeAny_builtin F.entry_set_update_loop ?_
  rw [qap F.plain_set_update_loop _]
  show wpAny _ _ (pyNext (.ref it)>>=_) _ _ _
  refine qaW (W.item i s _ _ hi st fun v s1 pv st1 mv=> ?_)
  obtain ⟨t,rfl⟩:=hval i v pv
  have g1:zgi prog w s1.heap a (fun z=>(firstMet val i).any (· == z)) (firstMet val i).length:=g.move (fun ob e=>mv.heap a ob awr e) (fun _=>rfl) rfl
  show wpAny _ _ (holding [Value.int (val i) t] (setAdd a (.int (val i) t))>>=_) _ _ _
  refine qaW (qaO ?_)
  unfold setAdd
  refine qaO (qaW ((intKind prog w).pyHash (k:=val i) (intKind_is _ _ _ _) ?_))
  have few:=firstMet_length_le val i
  refine ztM (s:={s1 with toks:=s1.toks+1}) g1 (by omega) fun h2 b sb g2=> ?_
  have g3:zgi prog w h2 a (fun z=>(firstMet val (i+1)).any (· == z)) (firstMet val (i+1)).length:=
   g2.move (fun _ e=>e) (fun z=>by rw [firstMet_succ,step_any]) (by rw [firstMet_succ,step_length])
  have off: ∀ b,b≠a->h2.get? b=s1.heap.get? b:=fun b hb=>sb.2 b hb
  refine qaX ⟨plainId_quiet F.plain_set_update_loop _,ih (i+1) _ (by omega) hi (W.frame _ s1 _ _ st1 (Nat.le_succ _) fun b hb ob e=> ?_) g3 fun s3 mv3 g4=> ?_⟩
  ·rw [off b fun z=>ha (z▸hb)]
   exact e
  ·refine q s3 (.trans W.gtrans ((mv.mono more).then_heap (Nat.le_succ _) fun b ob hb e=> ?_) mv3) g4
   rw [off b fun z=>hb (z▸ .head _)]
   exact e
end
section
variable {prog:Program} {w:World} {A:Around} {E:Value->Shared->Prop} {s:Shared}
theorem znd (h:Heap):zgi prog w (h.push {cls:= .type "set",dict:=none,data:= .set #[] 0 (.fresh 0 0 (zcE w))}) h.objs.size (fun _=>false) 0:=
 ⟨_, #[],0,_,⟨qar _ rfl,⟨rfl,rfl,rfl⟩,rfl⟩,fun e he=>by simp at he,fun k=>by simp,⟨by decide,rfl,rfl⟩,⟨List.Pairwise.nil,rfl,rfl⟩⟩
theorem ztI (x:Value) {Q:Value->Shared->Prop} (q:Q (.ref s.heap.objs.size) {s with heap:=s.heap.push {cls:= .type "set",dict:=none,data:= .set #[] 0 (.fresh 0 0 (zcE w))}}):
  codeAny (model prog w) A (.call (.builtin "set.__new__") ⟨[.type "set",x],[]⟩) (wants Q E) s:=by
 refine codeAny_of_tree ?_
 show wpAny _ _ (do checkBuiltinCall "set.__new__" ⟨[.type "set",x],[]⟩;again (.builtin "set.__new__" ⟨[.type "set",x],[]⟩)) _ _ _
 refine qaW (wpAny_of_eq (F.newCall_set_1 x) (qaX ⟨plainId_quiet F.plain_set_new _,codeAny_builtin F.entry_set_new ?_⟩))
 rw [qap F.plain_set_new _]
 unfold Builtin.«set.__new__» Builtin.Frozenset.newClass
 have self:=sub_set_self
 obtain ⟨hp,gs,dr,tk,os⟩:=s
 dsimp only
 wp_walk
 refine wpAny_askSetting (qaX ?_)
 dsimp only
 simp only [newObj]
 exact qaW (wpAny_alloc (qaX (qaX q)))
theorem ztb {l:Addr} {T:String} {items:Array Value} {ns:List Int} {Q:Value->Shared->Prop} (hh:A.handled=none) (hT:(T="list"/\s.heap.IsList l items)\/(T="tuple"/\s.heap.IsTuple l items)) (hi:IntsAre items.toList ns) (room:items.size+1<scanBound)
  (q: ∀ (h':Heap) (tk:Nat),zgi prog w h' s.heap.objs.size (fun z=>(firstMet (fun i=>ns.getD i 0) items.size).any (· == z)) (firstMet (fun i=>ns.getD i 0) items.size).length->(∀ b ob,s.heap.get? b=some ob->h'.get? b=some ob)->
    Q (.ref s.heap.objs.size) {s with heap:=h',toks:=tk}):wpAny (model prog w) A (call (.type "set") [.ref l]) Q E s:=by
 obtain ⟨c,tl,hmro⟩:=F.called_set.mro
 have hmade:=F.called_set.made
 have hsub:=F.called_set.sub
 refine wpAny_call (codeAny_of_tree ?_)
 show wpAny _ _ (callAny (.type "set") _) _ _ _
 refine qaX ⟨Code.quiet_builtin _ (by decide +kernel),codeAny_builtin F.entry_type_call ?_⟩
 rw [Around.under_plain (weight_type_call_type "set" [.ref l] []) rfl]
 have hnt:=F.called_set.notType
 have hcc:=F.called_set.canCreate
 have htc:=F.typeCall_set_1 (.ref l)
 repeat' (first | assumption | wp_step)
 refine codeAny_mono (ztI (.ref l) (E:=E) (Q:=fun v s1=>v= .ref s.heap.objs.size/\s1={s with heap:=s.heap.push {cls:= .type "set",dict:=none,data:= .set #[] 0 (.fresh 0 0 (zcE w))}}) ⟨rfl,rfl⟩) fun r s1 hr=> ?_
 cases r with
 | error e=>exact hr
 | ok fl=>
  cases fl with
  | ret v=>
   obtain ⟨rfl,rfl⟩:=hr
   have laid:(s.heap.push {cls:= .type "set",dict:=none,data:= .set #[] 0 (.fresh 0 0 (zcE w))}).get? s.heap.objs.size=some {cls:= .type "set",dict:=none,data:= .set #[] 0 (.fresh 0 0 (zcE w))}:=qar _ rfl
   have isSet:Shared.TypeIs {s with heap:=s.heap.push {cls:= .type "set",dict:=none,data:= .set #[] 0 (.fresh 0 0 (zcE w))}} (.ref s.heap.objs.size) "set":=⟨_,laid,rfl⟩
   have hli:=F.called_set.init.lookup
   have hbi:=F.called_set.init.bind (.ref s.heap.objs.size)
   repeat' (first | assumption | wp_step)
   refine codeAny_mono (codeAny_call_builtin (R:=wants (fun z s2=>z= .none/\ ∃ h' tk,s2={s with heap:=h',toks:=tk}/\
       zgi prog w h' s.heap.objs.size (fun z=>(firstMet (fun i=>ns.getD i 0) items.size).any (· == z)) (firstMet (fun i=>ns.getD i 0) items.size).length/\(∀ b ob,s.heap.get? b=some ob->h'.get? b=some ob)) E) F.called_set.init.plain F.entry_set_init (check_set_init_1 isSet ?_)) fun r2 s2 hr2=> ?_
   ·have keepL: ∀ ob,s.heap.get? l=some ob->(s.heap.push {cls:= .type "set",dict:=none,data:= .set #[] 0 (.fresh 0 0 (zcE w))}).get? l=some ob:=fun ob e=>qag _ e
    have hval: ∀ (i:Nat) (v:Value),items[i]? = some v-> ∃ t,v= .int ((fun i=>ns.getD i 0) i) t:=fun i v hv=>IntsAre.int_at hi i v (by rw [Array.getElem?_toList];exact hv)
    have hh3:A.in1.in1.in1.handled=none:=by simp [hh]
    have done1: ∀ (l0:Addr) (h0:Heap) (s':Shared),l0=s.heap.objs.size->Moved [l0,(s.heap.push {cls:= .type "set",dict:=none,data:= .set #[] 0 (.fresh 0 0 (zcE w))}).objs.size] (fun a b=>b=a) {s with heap:=h0} s'->(∀ b ob,s.heap.get? b=some ob->h0.get? b=some ob)->
      (∀ b ob,s.heap.get? b=some ob->s'.heap.get? b=some ob)/\s'={s with heap:=s'.heap,toks:=s'.toks}:=fun l0 h0 s' e0 mv k0=>by
     refine ⟨fun b ob e=>mv.heap b ob (fun z=> ?_) (k0 b ob e),?_⟩
     ·have lt:=qaQ e
      rw [qaL,e0] at z
      simp only [qaP,qaF,or_false] at z
      rcases z with z | z
      ·exact qaN _ (z▸lt)
      ·exact qaN _ (Nat.lt_of_succ_lt (z▸lt))
     ·obtain ⟨h',g',d',tk',os'⟩:=s'
      have eg:g'=s.gens:=mv.gens
      have ed:d'=s.drawn:=mv.drawn
      have eo:os'=s.os:=mv.os
      subst eg ed eo
      rfl
    unfold Builtin.«set.__init__» noKeywords Builtin.Frozenset.updateFrom
    generalize hPI:pyIter=PI
    rcases hT with ⟨rfl,hl⟩ | ⟨rfl,hl⟩
    ·obtain ⟨⟨ocl,odi,oda,osl⟩,hol,hcl,nl,hdl⟩:=hl
     simp only at hcl hdl
     subst hcl hdl
     have hol':=keepL _ hol
     have f1:=F.sub_list_set
     have f2:=F.sub_list_frozenset
     have f3:(Value.type "list"==Value.type "dict")=false:=by decide
     wp_walk
     subst hPI
     have hl1:(s.heap.push {cls:= .type "set",dict:=none,data:= .set #[] 0 (.fresh 0 0 (zcE w))}).IsList l items:=⟨_,hol',rfl,nl,rfl⟩
     refine wpAny_pyIter_list hl1 ?_
     refine qaW (wpAny_runValue ?_)
     have ltl:l<s.heap.objs.size:=qaQ hol
     have szp:(s.heap.push {cls:= .type "set",dict:=none,data:= .set #[] 0 (.fresh 0 0 (zcE w))}).objs.size=s.heap.objs.size+1:=qaL ..
     have ne1:l≠(s.heap.push {cls:= .type "set",dict:=none,data:= .set #[] 0 (.fresh 0 0 (zcE w))}).objs.size:=by rw [szp];exact qaR (Nat.lt_succ_of_lt ltl)
     have ne2:s.heap.objs.size∉[(s.heap.push {cls:= .type "set",dict:=none,data:= .set #[] 0 (.fresh 0 0 (zcE w))}).objs.size,l]:=by
      rw [szp]
      simp only [qaP,qaF,or_false]
      rintro (z | z)
      ·exact Nat.succ_ne_self _ z.symm
      ·exact qaN _ (z▸ltl)
     refine zte ((Walks.list hh3 _ l ne1 items).toS) s.heap.objs.size ne2 (fun i=>ns.getD i 0) hval room _ 0 _ rfl (Nat.zero_le _) ⟨⟨_,qar _ rfl,rfl,rfl⟩,hl1.push _⟩ ?g0 fun s' mv gg=> ?_
     case g0=>exact (znd s.heap).move (fun ob e=>qag _ e) (fun _=>rfl) rfl
     obtain ⟨k1,k2⟩:=done1 _ _ s' rfl mv fun b ob e=>qag _ (qag _ e)
     exact qaX (qaX ⟨rfl,s'.heap,s'.toks,k2,gg,k1⟩)
    ·obtain ⟨⟨ocl,odi,oda,osl⟩,hol,hcl,nl,hdl⟩:=hl
     simp only at hcl hdl
     subst hcl hdl
     have hol':=keepL _ hol
     have f1:=F.sub_tuple_set
     have f2:=F.sub_tuple_frozenset
     have f3:(Value.type "tuple"==Value.type "dict")=false:=by decide
     wp_walk
     subst hPI
     have hl1:(s.heap.push {cls:= .type "set",dict:=none,data:= .set #[] 0 (.fresh 0 0 (zcE w))}).IsTuple l items:=⟨_,hol',rfl,nl,rfl⟩
     refine wpAny_pyIter_tuple hl1 ?_
     refine qaW (wpAny_runValue ?_)
     have ltl:l<s.heap.objs.size:=qaQ hol
     have szp:(s.heap.push {cls:= .type "set",dict:=none,data:= .set #[] 0 (.fresh 0 0 (zcE w))}).objs.size=s.heap.objs.size+1:=qaL ..
     have ne1:l≠(s.heap.push {cls:= .type "set",dict:=none,data:= .set #[] 0 (.fresh 0 0 (zcE w))}).objs.size:=by rw [szp];exact qaR (Nat.lt_succ_of_lt ltl)
     have ne2:s.heap.objs.size∉[(s.heap.push {cls:= .type "set",dict:=none,data:= .set #[] 0 (.fresh 0 0 (zcE w))}).objs.size,l]:=by
      rw [szp]
      simp only [qaP,qaF,or_false]
      rintro (z | z)
      ·exact Nat.succ_ne_self _ z.symm
      ·exact qaN _ (z▸ltl)
     refine zte ((Walks.tuple hh3 _ l ne1 items).toS) s.heap.objs.size ne2 (fun i=>ns.getD i 0) hval room _ 0 _ rfl (Nat.zero_le _) ⟨⟨_,qar _ rfl,rfl,rfl⟩,⟨_,qag _ hol',rfl,nl,rfl⟩⟩ ?g0 fun s' mv gg=> ?_
     case g0=>exact (znd s.heap).move (fun ob e=>qag _ e) (fun _=>rfl) rfl
     obtain ⟨k1,k2⟩:=done1 _ _ s' rfl mv fun b ob e=>qag _ (qag _ e)
     exact qaX (qaX ⟨rfl,s'.heap,s'.toks,k2,gg,k1⟩)
   ·cases r2 with
    | error e=>exact hr2
    | ok fl2=>
     cases fl2 with
     | ret z=>
      obtain ⟨rfl,h',tk,rfl,gg,k1⟩:=hr2
      repeat' (first | assumption | wp_step)
      exact q _ _ gg k1
     | _=>exact hr2.elim
  | _=>exact hr.elim
end
theorem zaN:Slot "set_iterator" "__next__" "set_iterator.__next__":= .of (owner:="set_iterator") (n:="__next__") (by rw [typeLookup_type,builtinLookup_eq_fast];kernel_rfl) (by decide +kernel) (by decide +kernel) (by decide +kernel) (by first | exact .inl (by decide +kernel) | exact .inr (by decide +kernel)) (by rw [isSubtype_type];kernel_rfl)
theorem zdI:Slot "set_iterator" "__iter__" "set_iterator.__iter__":= .of (owner:="set_iterator") (n:="__iter__") (by rw [typeLookup_type,builtinLookup_eq_fast];kernel_rfl) (by decide +kernel) (by decide +kernel) (by decide +kernel) (by first | exact .inl (by decide +kernel) | exact .inr (by decide +kernel)) (by rw [isSubtype_type];kernel_rfl)
theorem zci:entryFor table "set_iterator.__next__"=some Builtin.«set_iterator.__next__» := entryFor_of_tree (by kernel_rfl)
theorem zfe:entryFor table "set_iterator.__iter__"=some Builtin.«dict_keyiterator.__iter__» := entryFor_alias (id':="dict_keyiterator.__iter__") (by kernel_rfl) rfl (by decide +kernel) (by kernel_rfl)
theorem zcL (a:Value):argsOk "set_iterator.__next__" ⟨[a],[]⟩:=by unfold argsOk;kernel_rfl
theorem zfK (a:Value):argsOk "set_iterator.__iter__" ⟨[a],[]⟩:=by unfold argsOk;kernel_rfl
theorem zfh:entryFor table "set.__iter__"=some Builtin.«frozenset.__iter__» := entryFor_alias (id':="frozenset.__iter__") (by kernel_rfl) rfl (by decide +kernel) (by kernel_rfl)
def SIt (h:Heap) (it a:Addr) (first:Value) (i n ep:Nat):Prop:=h.get? it=some {cls:= .type "set_iterator",dict:=none,data:= .fields #[first,.int i 0,.ref a,.int n 0,.int ep 0],slots:= #[]}
structure ziH (h:Heap) (a:Addr) (es:Array (Int×Value)) (ep:Nat) (tb:SetTable):Prop where
 at_: ∃ ob,h.get? a=some ob/\ob.ExactSet/\ob.data= .set es ep tb
 fits:tb.fits es.size=true
section
variable {prog:Program} {w:World} {A:Around} {E:Value->Shared->Prop} {s:Shared}
theorem zke {it a:Addr} {first:Value} {i n ep:Nat} {es:Array (Int×Value)} {tb:SetTable} {Q:Option Value->Shared->Prop} (hI:SIt s.heap it a first i n ep) (hS:ziH s.heap a es ep tb) (hn:es.size=n) (slot:Nat) (hf:first= .int slot 0)
  (q:wpAny (model prog w) A.in1 (do
    match<-setNext a slot i ep with
    | some (x,next)=>
      setField (.ref it) 0 (rawInt next)
      setField (.ref it) 1 (rawInt ((i:Int)+1))
      ret x
    | none=>setField (.ref it) 2 .none;raiseNew (<- newExc (.type "StopIteration") [])) (fun f s'=> ∃ v,f= .done (.ret v)/\Q (some v) s') (fun e s'=>wpAny (model prog w) A (do if<-isInstance e (.type "StopIteration") then pure none else throw e) Q E s') s):
  wpAny (model prog w) A (pyNext (.ref it)) Q E s:=by
 obtain ⟨ob,ho,hx,hd⟩:=hS.at_
 subst hf
 have tI:s.TypeIs (.ref it) "set_iterator":=⟨_,hI,rfl⟩
 unfold pyNext
 refine qaW (wpAny_attempt (wpAny_callSpecial?_slot (name:=Str.ofString "__next__") tI zaN (wpAny_call_entry zaN tI zci ?_ (zcL _))))
 unfold Builtin.«set_iterator.__next__»
 refine qaW (m:=slotArgs "__next__" 0 _) (qaX ?_)
 refine qaW (m:=fieldsOf (.ref it)) ?_
 unfold fieldsOf
 refine qaW (wpAny_load hI (qaX ?_))
 refine qaW (wpAny_setEntries_of ho hd hS.fits ?_)
 have same: ¬(((es.size:Nat):Int) != (n:Int))=true:=by rw [hn];simp
 rw [qa5 same]
 exact qaZ q (fun f s' ⟨v,e,z⟩=>⟨v,e,qaX z⟩) fun e s' z=>z
theorem zj6 {it:Addr} {r:Shared->Prop} {Q:Option Value->Shared->Prop} (hh:A.handled=none) (q: ∀ h',(∀ b ob,s.heap.get? b=some ob->h'.get? b=some ob)->Q none {s with heap:=h'}):
  wpAny (model prog w) A.in1 (do raiseNew (<- newExc (.type "StopIteration") []):Sem PySem.Fin) (fun f s'=> ∃ v,f= .done (.ret v)/\Q (some v) s') (fun e s'=>wpAny (model prog w) A (do if<-isInstance e (.type "StopIteration") then pure none else throw e) Q E s') s:=by
 refine qaW ?_
 simp only [newExc,newTuple]
 refine qaW (qaC ?_ (by size_fits))
 refine qaW (m:=firstArgMember _ _) (wpAny_of_eq (a:=Value.none) (by first | rfl | (simp only [firstArgMember];rfl)) ?_)
 refine qaC ?_ (by size_fits)
 simp only [raiseNew]
 refine qaW (wpAny_handled ?_)
 rw [show A.in1.handled=none from hh]
 refine qaW (qaX (wpAny_throw ?_))
 refine qaW (wpAny_isInstance (T:="StopIteration") (b:=true) ⟨_,qar _ rfl,rfl⟩ isSubtype_stop ?_)
 exact qaX (q _ fun b ob e=>qag _ (qag _ e))
theorem SIt.set {h h':Heap} {it a:Addr} {first:Value} {i n ep:Nat} (x:SIt h it a first i n ep):it<h.objs.size:=qaQ x
theorem zfn {es:Array (Int×Value)} {tb:SetTable} (hf:tb.fits es.size=true):tb.place.size=es.size:=by
 unfold SetTable.fits at hf
 simp only [qaG,beq_iff_eq] at hf
 exact hf.1
theorem zdQ {a:Addr} {ep i slot:Nat} {es:Array (Int×Value)} {tb:SetTable} {R:Option (Value×Nat)->Shared->Prop} (hS:ziH s.heap a es ep tb) (led:tb.led=true) (bt:w.params.followText "set-order"=false) (pl:(!tb.plain && decide (es.size>1))=false)
  (q:R (match es[SetTable.below tb.place slot]?, tb.place[SetTable.below tb.place slot]? with | some (_,x),some j=>some (x,j+1) | _,_=>none) s):wpAny (model prog w) A (setNext a slot i ep) R E s:=by
 obtain ⟨ob,ho,hx,hd⟩:=hS.at_
 unfold setNext
 refine qaW (wpAny_setState_of ho hd hS.fits ?_)
 dsimp only
 unfold setsByText
 refine qaW (qaW (wpAny_askSetting (qaX ?_)))
 dsimp only
 rw [show (model prog w).w.params.followText "set-order"=false from bt]
 simp only [qax,if_false]
 show wpAny _ _ (if (!tb.plain && decide (es.size>1))=true then _ else _) _ _ _
 rw [qa5 (by rw [pl];exact Bool.false_ne_true)]
 refine qaW ?_
 show wpAny _ _ (if (!tb.led && !es.isEmpty)=true then _ else _) _ _ _
 rw [qa5 (by rw [led];exact Bool.false_ne_true)]
 exact qaX (qaX q)
theorem zea {a:Addr} {ep i slot:Nat} {es:Array (Int×Value)} {tb:SetTable} {R:Option (Value×Nat)->Shared->Prop} (hS:ziH s.heap a es ep tb) (bt:w.params.followText "set-order"=true)
  (q:R (((pickOrder (w.params.setOrder a ep) es)[i]?).map fun e=>(e.2,slot)) s):wpAny (model prog w) A (setNext a slot i ep) R E s:=by
 obtain ⟨ob,ho,hx,hd⟩:=hS.at_
 unfold setNext
 refine qaW (wpAny_setState_of ho hd hS.fits ?_)
 dsimp only
 unfold setsByText
 refine qaW (qaW (wpAny_askSetting (qaX ?_)))
 dsimp only
 rw [show (model prog w).w.params.followText "set-order"=true from bt]
 simp only [if_true]
 rw [qa5 (by simp)]
 refine qaW ?_
 unfold setWalk
 refine qaW (wpAny_setState_of ho hd hS.fits ?_)
 dsimp only
 unfold setsByText
 refine qaW (qaW (wpAny_askSetting (qaX ?_)))
 dsimp only
 rw [show (model prog w).w.params.followText "set-order"=true from bt]
 simp only [if_true]
 refine qaW (wpAny_askSetting (qaX (qaX q)))
theorem zjE {it a:Addr} {n ep i slot nx:Nat} {x:Value} {es:Array (Int×Value)} {tb:SetTable} {Q:Option Value->Shared->Prop} (hI:SIt s.heap it a (.int slot 0) i n ep) (hS:ziH s.heap a es ep tb) (hn:es.size=n)
  (st: ∀ (R:Option (Value×Nat)->Shared->Prop) (E':Value->Shared->Prop),R (some (x,nx)) s->wpAny (model prog w) A.in1 (setNext a slot i ep) R E' s)
  (q: ∀ h',SIt h' it a (.int nx 0) (i+1) n ep->Heap.SameBut it s.heap h'->Q (some x) {s with heap:=h'}):wpAny (model prog w) A (pyNext (.ref it)) Q E s:=by
 refine zke hI hS hn slot rfl (qaW (st _ _ ?_))
 dsimp only
 refine qaW (wpAny_setField_rec hI (by simp) fun h1 a1 sb1=> ?_)
 refine qaW (wpAny_setField_rec (s:={s with heap:=h1}) a1 (by simp) fun h2 a2 sb2=> ?_)
 refine qaX ⟨x,rfl,q h2 ?_ (sb1.trans sb2)⟩
 unfold SIt
 rw [a2]
 simp [rawInt]
theorem znk {it a:Addr} {n ep i slot:Nat} {es:Array (Int×Value)} {tb:SetTable} {Q:Option Value->Shared->Prop} (hh:A.handled=none) (hI:SIt s.heap it a (.int slot 0) i n ep) (hS:ziH s.heap a es ep tb) (hn:es.size=n)
  (st: ∀ (R:Option (Value×Nat)->Shared->Prop) (E':Value->Shared->Prop),R none s->wpAny (model prog w) A.in1 (setNext a slot i ep) R E' s)
  (q: ∀ h',(∀ b ob,b≠it->s.heap.get? b=some ob->h'.get? b=some ob)->Q none {s with heap:=h'}):wpAny (model prog w) A (pyNext (.ref it)) Q E s:=by
 refine zke hI hS hn slot rfl (qaW (st _ _ ?_))
 dsimp only
 refine qaW (wpAny_setField_rec hI (by simp) fun h1 a1 sb1=> ?_)
 exact zj6 (r:=fun _=>True) (it:=it) (s:={s with heap:=h1}) hh fun h' k=>q h' fun b ob hb e=>k b ob ((sb1.2 b hb).trans e)
end
theorem zdi {α:Type}: ∀ {l:List α} {i:Nat} {x:α},l[i]? = some x->List.Perm l (x::l.eraseIdx i)
 | [],_,_,e=>by simp at e
 | a::r,0,x,e=>by simp at e;subst e;exact .rfl
 | a::r,i+1,x,e=>by
  have e:r[i]? = some x:=by simpa using e
  exact ((zdi e).cons a).trans (.swap x a _)
theorem zeh {α:Type} {l:List α} {i:Nat} {x:α} (e:l[i]? = some x):(l.eraseIdx i).length+1=l.length:=by
 have:=(zdi e).length_eq
 rw [qaE] at this
 exact this.symm
theorem zhe {α:Type} (nx:Nat->Nat): ∀ (fuel k:Nat) (left:List α) (out:Array α),left.length=fuel->List.Perm (pickOrder.go nx fuel k left out).toList (out.toList++left)
 | 0,k,left,out,h=>by
  have:left=[]:=List.length_eq_zero_iff.mp h
  subst this
  simp [pickOrder.go]
 | fuel+1,k,left,out,h=>by
  unfold pickOrder.go
  have hl:nx k % left.length<left.length:=Nat.mod_lt _ (by omega)
  have e:left[nx k % left.length]? = some left[nx k % left.length]:=by simp [hl]
  rw [e]
  dsimp only
  have hz:=zeh e
  refine (zhe nx fuel (k+1) _ _ (by omega)).trans ?_
  rw [Array.toList_push,List.append_assoc]
  exact List.Perm.append_left _ (zdi e).symm
theorem zcl {α:Type} (nx:Nat->Nat) (xs:Array α):List.Perm (pickOrder nx xs).toList xs.toList:=by
 have:=zhe nx xs.size 0 xs.toList #[] (by simp)
 simpa [pickOrder] using this
section
variable {prog:Program} {w:World} {A:Around} {E:Value->Shared->Prop} {s:Shared}
theorem zjb {src:Source} {n:Nat} {Q:Nat->Shared->Prop} (hn:n≠0) (q: ∀ k d,k<n->Q k {s with drawn:=d}):wpAny (model prog w) A (choose src n) Q E s:=fun Γ p hΓ=>⟨hn,q _ _ (Nat.mod_lt _ (Nat.pos_of_ne_zero hn))⟩
theorem zef {α:Type}: ∀ (fuel:Nat) (xs:List α) (s:Shared) (Q:List α->Shared->Prop),xs.length<=fuel->(∀ ys d,List.Perm ys xs->Q ys {s with drawn:=d})->wpAny (model prog w) A (drawOrder fuel xs) Q E s
 | 0,xs,s,Q,h,q=>by
  have:xs=[]:=List.length_eq_zero_iff.mp (by omega)
  subst this
  unfold drawOrder
  exact qaX (q [] s.drawn .rfl)
 | fuel+1,[],s,Q,h,q=>by
  unfold drawOrder
  exact qaX (q [] s.drawn .rfl)
 | fuel+1,x::r,s,Q,h,q=>by
  unfold drawOrder
  refine qaW (zjb (by simp) fun k d hk=> ?_)
  have e:(x::r)[k]? = some (x::r)[k]:=by simp [hk]
  rw [e]
  dsimp only
  have hz:=zeh e
  refine qaW (zef fuel ((x::r).eraseIdx k) {s with drawn:=d} _ (by omega) fun ys d' p=>qaX ?_)
  exact q _ d' ((p.cons _).trans (zdi e).symm)
theorem zja {it a tp:Addr} {n ep i p:Nat} {x:Value} {es:Array (Int×Value)} {tb:SetTable} {ps:Array Value} {Q:Option Value->Shared->Prop} (hI:SIt s.heap it a (.ref tp) i n ep) (hS:ziH s.heap a es ep tb) (hn:es.size=n)
  (hT:s.heap.get? tp=some {cls:= .type "tuple",data:= .seq ps}) (hp:ps[i]? = some (.int (p:Nat) 0)) (he:(es[p]?).map (·.2)=some x)
  (q: ∀ h',SIt h' it a (.ref tp) (i+1) n ep->Heap.SameBut it s.heap h'->Q (some x) {s with heap:=h'}):wpAny (model prog w) A (pyNext (.ref it)) Q E s:=by
 obtain ⟨ob,ho,hx,hd⟩:=hS.at_
 have tI:s.TypeIs (.ref it) "set_iterator":=⟨_,hI,rfl⟩
 unfold pyNext
 refine qaW (wpAny_attempt (wpAny_callSpecial?_slot (name:=Str.ofString "__next__") tI zaN (wpAny_call_entry zaN tI zci ?_ (zcL _))))
 unfold Builtin.«set_iterator.__next__»
 refine qaW (m:=slotArgs "__next__" 0 _) (qaX ?_)
 refine qaW (m:=fieldsOf (.ref it)) ?_
 unfold fieldsOf
 refine qaW (wpAny_load hI (qaX ?_))
 refine qaW (wpAny_setEntries_of ho hd hS.fits ?_)
 have same: ¬(((es.size:Nat):Int) != (n:Int))=true:=by rw [hn];simp
 rw [qa5 same]
 refine qaW (m:=seqItems? (.ref tp)) ?_
 unfold seqItems?
 refine qaW (wpAny_load hT (qaX ?_))
 dsimp only
 rw [show ((i:Nat):Int).toNat=i from qaB i,hp]
 dsimp only
 refine qaW (m:=setNextDrawn a _ _) ?_
 unfold setNextDrawn
 refine qaW (wpAny_setState_of ho hd hS.fits ?_)
 dsimp only
 rw [show ((ep:Nat):Int).toNat=ep from qaB ep,show ((p:Nat):Int).toNat=p from qaB p,qa5 (by simp)]
 cases ee:es[p]? with
 | none=>rw [ee] at he;cases he
 | some e=>
  rw [ee] at he
  cases he
  dsimp only
  refine qaX ?_
  refine qaW (wpAny_setField_rec hI (by simp) fun h2 a2 sb2=> ?_)
  refine qaX ⟨_,rfl,qaX (q h2 ?_ sb2)⟩
  unfold SIt
  rw [a2]
  simp [rawInt]
theorem zj2 {it a tp:Addr} {n ep i:Nat} {es:Array (Int×Value)} {tb:SetTable} {ps:Array Value} {Q:Option Value->Shared->Prop} (hh:A.handled=none) (hI:SIt s.heap it a (.ref tp) i n ep) (hS:ziH s.heap a es ep tb) (hn:es.size=n)
  (hT:s.heap.get? tp=some {cls:= .type "tuple",data:= .seq ps}) (hp:ps[i]? = none)
  (q: ∀ h',(∀ b ob,b≠it->s.heap.get? b=some ob->h'.get? b=some ob)->Q none {s with heap:=h'}):wpAny (model prog w) A (pyNext (.ref it)) Q E s:=by
 obtain ⟨ob,ho,hx,hd⟩:=hS.at_
 have tI:s.TypeIs (.ref it) "set_iterator":=⟨_,hI,rfl⟩
 unfold pyNext
 refine qaW (wpAny_attempt (wpAny_callSpecial?_slot (name:=Str.ofString "__next__") tI zaN (wpAny_call_entry zaN tI zci ?_ (zcL _))))
 unfold Builtin.«set_iterator.__next__»
 refine qaW (m:=slotArgs "__next__" 0 _) (qaX ?_)
 refine qaW (m:=fieldsOf (.ref it)) ?_
 unfold fieldsOf
 refine qaW (wpAny_load hI (qaX ?_))
 refine qaW (wpAny_setEntries_of ho hd hS.fits ?_)
 have same: ¬(((es.size:Nat):Int) != (n:Int))=true:=by rw [hn];simp
 rw [qa5 same]
 refine qaW (m:=seqItems? (.ref tp)) ?_
 unfold seqItems?
 refine qaW (wpAny_load hT (qaX ?_))
 dsimp only
 rw [show ((i:Nat):Int).toNat=i from qaB i,hp]
 dsimp only
 refine qaW (wpAny_setField_rec hI (by simp) fun h1 a1 sb1=> ?_)
 refine qaW (wpAny_setField_rec (s:={s with heap:=h1}) a1 (by simp) fun h2 a2 sb2=> ?_)
 refine qaZ (zj6 (Q:=Q) (E:=E) (r:=fun _=>True) (it:=it) (s:={s with heap:=h2}) hh fun h' k=>q h' fun b ob hb e=>k b ob ((sb2.2 b hb).trans ((sb1.2 b hb).trans e))) (fun f s' ⟨v,e,z⟩=>⟨v,e,qaX z⟩) fun e s' z=>z
theorem ze6 {it a:Addr} {first:Value} {i n ep:Nat} {Q:Value->Shared->Prop} (hI:SIt s.heap it a first i n ep) (q:Q (.ref it) s):wpAny (model prog w) A (pyIter (.ref it)) Q E s:=by
 have tI:s.TypeIs (.ref it) "set_iterator":=⟨_,hI,rfl⟩
 refine wpAny_pyIter_slot tI zdI (wpAny_call_entry zdI tI zfe ?_ (zfK _))
 show wpAny _ _ (ret (.ref it)) _ _ _
 exact qaX ⟨_,rfl,"set_iterator",_,tI,zaN.lookup,q⟩
theorem ziH.keep {h h':Heap} {a:Addr} {es:Array (Int×Value)} {ep:Nat} {tb:SetTable} (x:ziH h a es ep tb) (k: ∀ ob,h.get? a=some ob->h'.get? a=some ob):ziH h' a es ep tb:=
 ⟨let ⟨ob,h1,h2⟩:=x.at_;⟨ob,k ob h1,h2⟩,x.fits⟩
noncomputable def zgW (tb:SetTable):Nat->Nat
 | 0=>0
 | i+1=>tb.place.getD i 0+1
theorem zi9 (hh:A.handled=none) {it a:Addr} {ep:Nat} {es:Array (Int×Value)} {tb:SetTable} (hne:a≠it) (up:Up tb.place) (led:tb.led=true) (bt:w.params.followText "set-order"=false) (pl:(!tb.plain && decide (es.size>1))=false) (hf:tb.fits es.size=true):
  Walks prog w A it [it,a] [it] es.size (fun i v=> ∃ e,es.toList[i]? = some e/\v=e.2) (fun i h=>SIt h it a (.int (zgW tb i:Nat) 0) i es.size ep/\ziH h a es ep tb) where
 sub:=fun b hb=>by simp at hb;simp [hb]
 frame:=fun i h h' st k=>⟨k it (by simp) _ st.1,st.2.keep fun ob e=>k a (by simp) ob e⟩
 item:=fun i s Q E hi st q=>by
  have pz:=zfn hf
  have hi2:i<tb.place.size:=by omega
  have bl:SetTable.below tb.place (zgW tb i)=i:=by
   cases i with
   | zero=>exact zfr up
   | succ i=>
    have hi3:i<tb.place.size:=by omega
    have e:tb.place[i]? = some (tb.place.getD i 0):=by simp [hi3,Array.getD]
    exact zfx up e
  have ep':tb.place.getD i 0=tb.place[i]:=by simp [hi2,Array.getD]
  refine zjE (nx:=zgW tb (i+1)) (x:=es[i].2) st.1 st.2 rfl (fun R E' r=>zdQ st.2 led bt pl ?_) fun h' a1 sb=> ?_
  ·rw [bl]
   have e1:es[i]? = some es[i]:=by simp [hi]
   have e2:tb.place[i]? = some tb.place[i]:=by simp [hi2]
   rw [e1,e2]
   show R (some (es[i].2,tb.place[i]+1)) s
   have e3:zgW tb (i+1)=tb.place[i]+1:=by show tb.place.getD i 0+1=_;rw [ep']
   rw [<- e3]
   exact r
  ·exact q _ h' s.toks ⟨es[i],by simp [hi],rfl⟩ ⟨a1,st.2.keep fun ob e=>(sb.2 a hne).trans e⟩ fun b ob hb e=>(sb.2 b fun z=>hb (by simp [z])).trans e
 done:=fun s Q E st q=>by
  have pz:=zfn hf
  have bl:SetTable.below tb.place (zgW tb es.size)=es.size:=by
   cases hz:es.size with
   | zero=>exact zfr up
   | succ i=>
    have hi3:i<tb.place.size:=by omega
    have e:tb.place[i]? = some (tb.place.getD i 0):=by simp [hi3,Array.getD]
    exact zfx up e
  refine znk hh st.1 st.2 rfl (fun R E' r=>zdQ st.2 led bt pl ?_) fun h' k=>q h' s.toks fun b ob hb e=>k b ob (fun z=>hb (by simp [z])) e
  rw [bl]
  have e1:es[es.size]? = none:=by simp
  rw [e1]
  exact r
 self:=fun i s Q E st q=>ze6 st.1 q
theorem zkc (hh:A.handled=none) {it a:Addr} {ep:Nat} {es:Array (Int×Value)} {tb:SetTable} (hne:a≠it) (bt:w.params.followText "set-order"=true) (hf:tb.fits es.size=true):
  Walks prog w A it [it,a] [it] es.size (fun i v=> ∃ e,(pickOrder (w.params.setOrder a ep) es).toList[i]? = some e/\v=e.2) (fun i h=>SIt h it a (.int (0:Nat) 0) i es.size ep/\ziH h a es ep tb) where
 sub:=fun b hb=>by simp at hb;simp [hb]
 frame:=fun i h h' st k=>⟨k it (by simp) _ st.1,st.2.keep fun ob e=>k a (by simp) ob e⟩
 item:=fun i s Q E hi st q=>by
  have pz:(pickOrder (w.params.setOrder a ep) es).size=es.size:=by
   have:=(zcl (w.params.setOrder a ep) es).length_eq
   simpa using this
  have hi2:i<(pickOrder (w.params.setOrder a ep) es).size:=by omega
  refine zjE (nx:=0) (x:=(pickOrder (w.params.setOrder a ep) es)[i].2) st.1 st.2 rfl (fun R E' r=>zea st.2 bt ?_) fun h' a1 sb=> ?_
  ·have e1:(pickOrder (w.params.setOrder a ep) es)[i]? = some (pickOrder (w.params.setOrder a ep) es)[i]:=by simp [hi2]
   rw [e1]
   exact r
  ·exact q _ h' s.toks ⟨(pickOrder (w.params.setOrder a ep) es)[i],by simp [hi2],rfl⟩ ⟨a1,st.2.keep fun ob e=>(sb.2 a hne).trans e⟩ fun b ob hb e=>(sb.2 b fun z=>hb (by simp [z])).trans e
 done:=fun s Q E st q=>by
  have pz:(pickOrder (w.params.setOrder a ep) es).size=es.size:=by
   have:=(zcl (w.params.setOrder a ep) es).length_eq
   simpa using this
  refine znk hh st.1 st.2 rfl (fun R E' r=>zea st.2 bt ?_) fun h' k=>q h' s.toks fun b ob hb e=>k b ob (fun z=>hb (by simp [z])) e
  have e1:(pickOrder (w.params.setOrder a ep) es)[es.size]? = none:=by simp [pz]
  rw [e1]
  exact r
 self:=fun i s Q E st q=>ze6 st.1 q
theorem zi2 (hh:A.handled=none) {it a tp:Addr} {ep:Nat} {es:Array (Int×Value)} {tb:SetTable} {ys:List Nat} (hne:a≠it) (hne2:tp≠it) (hp:List.Perm ys (List.range es.size)):
  Walks prog w A it [it,a,tp] [it] es.size (fun i v=> ∃ e,(ys.filterMap (es[·]?))[i]? = some e/\v=e.2) (fun i h=>SIt h it a (.ref tp) i es.size ep/\ziH h a es ep tb/\h.get? tp=some {cls:= .type "tuple",data:= .seq (ys.map fun (i:Nat)=>rawInt i).toArray}) where
 sub:=fun b hb=>by simp at hb;simp [hb]
 frame:=fun i h h' st k=>⟨k it (by simp) _ st.1,st.2.1.keep fun ob e=>k a (by simp) ob e,k tp (by simp) _ st.2.2⟩
 item:=fun i s Q E hi st q=>by
  have hl:ys.length=es.size:=by simpa using hp.length_eq
  have hi2:i<ys.length:=by omega
  have lt: ∀ y∈ys,y<es.size:=fun y hy=>by simpa using hp.mem_iff.mp hy
  have lti:=lt _ (List.getElem_mem hi2)
  have fm: ∀ (zs:List Nat),(∀ y∈zs,y<es.size)-> ∀ (j:Nat) (y:Nat),zs[j]? = some y->(zs.filterMap (es[·]?))[j]? = es[y]? := by
   intro zs
   induction zs with
   | nil=>intro _ j y e;simp at e
   | cons z r ih=>
    intro hz j y e
    have lz:=hz z (.head _)
    rw [List.filterMap_cons_some (b:=es[z]) (by simp [lz])]
    cases j with
    | zero=>simp at e;subst e;simp [lz]
    | succ j=>simpa using ih (fun y hy=>hz y (.tail _ hy)) j y (by simpa using e)
  refine zja (p:=ys[i]) (x:=es[ys[i]].2) st.1 st.2.1 rfl st.2.2 (by simp [hi2,rawInt]) (by simp [lti]) fun h' a1 sb=> ?_
  refine q _ h' s.toks ⟨es[ys[i]],?_,rfl⟩ ⟨a1,st.2.1.keep fun ob e=>(sb.2 a hne).trans e,(sb.2 tp hne2).trans st.2.2⟩ fun b ob hb e=>(sb.2 b fun z=>hb (by simp [z])).trans e
  rw [fm ys lt i ys[i] (by simp [hi2])]
  simp [lti]
 done:=fun s Q E st q=>by
  have hl:ys.length=es.size:=by simpa using hp.length_eq
  exact zj2 hh st.1 st.2.1 rfl st.2.2 (by simp [hl]) fun h' k=>q h' s.toks fun b ob hb e=>k b ob (fun z=>hb (by simp [z])) e
 self:=fun i s Q E st q=>ze6 st.1 q
end
section
variable {prog:Program} {w:World} {A:Around} {E:Value->Shared->Prop} {s:Shared}
structure znx (prog:Program) (w:World) (a it:Addr) (es:Array (Int×Value)) (ord:List (Int×Value)) (fp:List Addr) (St:Nat->Heap->Prop):Prop where
 walks: ∀ A:Around,A.handled=none->Walks prog w A it fp [it] es.size (fun i v=> ∃ e,ord[i]? = some e/\v=e.2) St
 perm:List.Perm ord es.toList
 mem:it∈fp
theorem zsz {a:Addr} {S:Int->Bool} {n:Nat} {Q:Value->Shared->Prop} (g:zgi prog w s.heap a S n)
  (q: ∀ it es ep tb ord fp St h' d,(∃ ob,s.heap.get? a=some ob/\ob.ExactSet/\ob.data= .set es ep tb)->znx prog w a it es ord fp St->St 0 h'->s.heap.objs.size<=it->(∀ b ob,s.heap.get? b=some ob->h'.get? b=some ob)->(∀ b∈fp,b=a\/s.heap.objs.size<=b)->es.size<scanBound->
    Q (.ref it) {s with heap:=h',drawn:=d}):wpAny (model prog w) A (pyIter (.ref a)) Q E s:=by
 obtain ⟨ob,es,ep,tb,⟨h1,h2,h3⟩,h4,h5,⟨h6,h7,h8⟩,h9⟩:=g
 have tS:s.TypeIs (.ref a) "set":=⟨ob,h1,h2.1⟩
 have lta:a<s.heap.objs.size:=qaQ h1
 refine wpAny_pyIter_slot tS F.slot_set_iter (wpAny_call_entry F.slot_set_iter tS zfh ?_ (F.args_set_iter_1 _))
 unfold Builtin.«frozenset.__iter__»
 refine qaW (m:=Builtin.Frozenset.slot0 "__iter__" _) (qaX ?_)
 refine qaW (m:=Builtin.Frozenset.sizeOf a) ?_
 unfold Builtin.Frozenset.sizeOf
 refine qaW (wpAny_setEntries_of h1 h3 h7 (qaX ?_))
 refine qaW (m:=setDrawn a) ?_
 unfold setDrawn
 refine qaW (wpAny_setState_of h1 h3 h7 ?_)
 dsimp only
 unfold setsByText
 refine qaW (qaW (wpAny_askSetting (qaX (qaX ?_))))
 dsimp only
 have sobj: ∀ {h':Heap},(∀ b ob,s.heap.get? b=some ob->h'.get? b=some ob)->ziH h' a es ep tb:=fun k=>⟨⟨ob,k _ _ h1,h2,h3⟩,h7⟩
 by_cases dr:(!(model prog w).w.params.followText "set-order" && (!tb.plain && decide (es.size>1)))=true
 ·show wpAny _ _ (if (!(model prog w).w.params.followText "set-order" && (!tb.plain && decide (es.size>1)))=true then _ else _) _ _ _
  rw [qa4 dr]
  refine qaW (zef es.size (List.range es.size) s _ (by simp) fun ys d hp=> ?_)
  have hl:ys.length=es.size:=by simpa using hp.length_eq
  have small:es.size<=sizeLine:=fits_of_scanBound h6
  refine qaW ?_
  unfold newTuple
  refine qaC ?_ (by show (ys.map fun (i:Nat)=>rawInt i).toArray.size<=sizeLine;simp [hl];exact small)
  unfold setEpoch
  refine qaW (qaW (wpAny_setState_of (s:={s with heap:=_,drawn:=d}) (qag _ h1) h3 h7 (qaX ?_)))
  dsimp only
  refine qaW (qaC (qaX ⟨_,rfl,"set_iterator",_,⟨_,qar _ rfl,rfl⟩,zaN.lookup,?_⟩))
  have z1:(s.heap.push {cls:= .type "tuple",dict:=none,data:= .seq (ys.map fun (i:Nat)=>rawInt i).toArray}).objs.size=s.heap.objs.size+1:=qaL ..
  have kp: ∀ (o2:Obj) b ob,s.heap.get? b=some ob->((s.heap.push {cls:= .type "tuple",dict:=none,data:= .seq (ys.map fun (i:Nat)=>rawInt i).toArray}).push o2).get? b=some ob:=fun o2 b ob e=>qag _ (qag _ e)
  refine q _ es ep tb (ys.filterMap (es[·]?)) [(s.heap.push {cls:= .type "tuple",dict:=none,data:= .seq (ys.map fun (i:Nat)=>rawInt i).toArray}).objs.size,a,s.heap.objs.size] _ _ d ⟨ob,h1,h2,h3⟩ ⟨fun A' hA=>zi2 (tb:=tb) (ep:=ep) hA ?_ ?_ hp,?_,.head _⟩ ⟨?_,sobj (kp _),?_⟩ ?_ (kp _) (fun b hb=> ?_) h6
  ·rw [z1];exact qaR (Nat.lt_succ_of_lt lta)
  ·rw [z1];exact qaR (Nat.lt_succ_self _)
  ·refine (hp.filterMap _).trans ?_
   rw [filterMap_getElem?_range]
  ·exact qar _ rfl
  ·exact qag _ (qar _ rfl)
  ·rw [z1];exact Nat.le_succ _
  ·simp only [qaP,qaF,or_false] at hb
   rcases hb with z | z | z
   ·right;rw [z,z1];exact Nat.le_succ _
   ·exact .inl z
   ·right;rw [z];exact qaV _
 ·show wpAny _ _ (if (!(model prog w).w.params.followText "set-order" && (!tb.plain && decide (es.size>1)))=true then _ else _) _ _ _
  rw [qa5 dr]
  refine qaW (qaX ?_)
  unfold setEpoch
  refine qaW (qaW (wpAny_setState_of h1 h3 h7 (qaX ?_)))
  dsimp only
  refine qaW (qaC (qaX ⟨_,rfl,"set_iterator",_,⟨_,qar _ rfl,rfl⟩,zaN.lookup,?_⟩))
  have kp: ∀ (o2:Obj) b ob,s.heap.get? b=some ob->(s.heap.push o2).get? b=some ob:=fun o2 b ob e=>qag _ e
  have fpl: ∀ b∈[s.heap.objs.size,a],b=a\/s.heap.objs.size<=b:=fun b hb=>by
   simp only [qaP,qaF,or_false] at hb
   rcases hb with z | z
   ·right;rw [z];exact qaV _
   ·exact .inl z
  cases bt:w.params.followText "set-order" with
  | true=>
   exact q _ es ep tb _ [s.heap.objs.size,a] _ _ s.drawn ⟨ob,h1,h2,h3⟩ ⟨fun A' hA=>zkc (tb:=tb) (ep:=ep) hA (qaR lta) bt h7,zcl _ _,.head _⟩ ⟨qar _ rfl,sobj (kp _)⟩ (qaV _) (kp _) fpl h6
  | false=>
   have pl:(!tb.plain && decide (es.size>1))=false:=by
    rw [show (model prog w).w.params.followText "set-order"=false from bt] at dr
    simpa using dr
   have led:tb.led=true:=by
    rw [h9.led]
    unfold zcE
    rw [bt]
    rfl
   exact q _ es ep tb _ [s.heap.objs.size,a] _ _ s.drawn ⟨ob,h1,h2,h3⟩ ⟨fun A' hA=>zi9 (tb:=tb) (ep:=ep) hA (qaR lta) h9.up led bt pl h7,.rfl,.head _⟩ ⟨qar _ rfl,sobj (kp _)⟩ (qaV _) (kp _) fpl h6
theorem zmD {a:Addr} {S:Int->Bool} {n:Nat} {Q:List Value->Shared->Prop} (hh:A.handled=none) (g:zgi prog w s.heap a S n)
  (q: ∀ vs s' es ep tb,(∃ ob,s.heap.get? a=some ob/\ob.ExactSet/\ob.data= .set es ep tb)->List.Perm vs (es.toList.map (·.2))->(∀ b ob,s.heap.get? b=some ob->s'.heap.get? b=some ob)->s'.gens=s.gens->s'.os=s.os->Q vs s'):wpAny (model prog w) A (collect (.ref a)) Q E s:=by
 have tS: ∀ {h':Heap} {s':Shared},s'.heap=h'->(∀ b ob,s.heap.get? b=some ob->h'.get? b=some ob)->s'.TypeIs (.ref a) "set":=fun {h' s'} e k=>by
  obtain ⟨ob,es,ep,tb,⟨h1,h2,h3⟩,_⟩:=g
  exact ⟨ob,by rw [e];exact k _ _ h1,h2.1⟩
 have lta:a<s.heap.objs.size:=by
  obtain ⟨ob,es,ep,tb,⟨h1,h2,h3⟩,_⟩:=g
  exact qaQ h1
 unfold collect
 refine qaW (wpAny_runValue (codeAny_builtin F.entry_proto_collect ?_))
 rw [qap F.plain_proto_collect _]
 show wpAny _ _ (newList []>>=fun l=>again (.builtin "list.__iadd__" ⟨[l,.ref a],[]⟩)) _ _ _
 refine qaW (qaC (qaX ⟨plainId_quiet F.plain_list_iadd _,codeAny_builtin F.entry_list_iadd ?_⟩))
 rw [qap F.plain_list_iadd _]
 show wpAny _ _ (Builtin.List.listExtendWith (.ref s.heap.objs.size) (.ref a) (.ref s.heap.objs.size)) _ _ _
 unfold Builtin.List.listExtendWith
 have k1: ∀ b ob,s.heap.get? b=some ob->(s.heap.push {cls:= .type "list",data:= .seq ([]:List Value).toArray}).get? b=some ob:=fun b ob e=>qag _ e
 refine qaW (wpAny_typeOf (tS rfl k1) ?_)
 have nsame:Builtin.List.listSameRef (.ref s.heap.objs.size) (.ref a)=false:=by
  simp only [Builtin.List.listSameRef,beq_eq_false_iff_ne]
  exact fun z=>qaN _ (z▸lta)
 have nl:(Value.type "set"==Value.type "list")=false:=by decide
 have nt:(Value.type "set"==Value.type "tuple")=false:=by decide
 simp only [nsame,nl,nt,Bool.or_false,qax,if_false]
 refine qaW (zsz (g.move (fun ob e=>k1 _ _ e) (fun _=>rfl) rfl) fun it es ep tb ord fp St h2 d hob W st0 lit k2 fpl few=> ?_)
 refine qaW (qaO ?_)
 unfold Builtin.List.listLengthHint
 have k12: ∀ b ob,s.heap.get? b=some ob->h2.get? b=some ob:=fun b ob e=>k2 b ob (k1 b ob e)
 refine qaW (wpAny_specialOf (tS rfl k12) F.slot_set_len.lookup ?_)
 have sp:splitId "set.__len__"=some ("set","__len__"):=by decide +kernel
 dsimp only
 rw [sp]
 dsimp only
 refine qaW (wpAny_isInstance (tS rfl k12) sub_set_self ?_)
 rw [qa5 (by decide)]
 rw [qa4 (by decide +kernel)]
 refine qaW (wpAny_typeOf (tS rfl k12) (qaX ?_))
 rw [qa4 (by decide +kernel)]
 refine qaW (wpAny_rule ?_)
 have l2:h2.get? s.heap.objs.size=some {cls:= .type "list",data:= .seq ([]:List Value).toArray}:=k2 _ _ (qar _ rfl)
 refine qaW ?_
 unfold Builtin.List.listTouch
 show wpAny _ _ (updateSeq s.heap.objs.size (·.push .none)>>=fun _=>updateSeq s.heap.objs.size (·.pop)) _ _ _
 refine qaW (wpAny_updateSeq l2 rfl ?_)
 have l3:=qal (Obj.mapSeq (·.push Value.none)) l2 rfl
 refine wpAny_updateSeq l3 rfl ?_
 have l4:=qal (Obj.mapSeq (·.pop)) l3 rfl
 have oth: ∀ b ob,b≠s.heap.objs.size->h2.get? b=some ob->((h2.update s.heap.objs.size (Obj.mapSeq (·.push Value.none))).update s.heap.objs.size (Obj.mapSeq (·.pop))).get? b=some ob:=fun b ob hb e=>
  (qah _ _ (Ne.symm hb)).trans ((qah _ _ (Ne.symm hb)).trans e)
 have nfp:s.heap.objs.size∉fp:=fun z=>by
  rcases fpl _ z with z | z
  ·exact qaN _ (z▸lta)
  ·rw [show ({s with heap:=s.heap.push {cls:= .type "list",data:= .seq ([]:List Value).toArray}}:Shared).heap.objs.size=s.heap.objs.size+1 from qaL ..] at z
   exact qaN _ z
 have fin: ∀ (s':Shared) (vs:Array Value) (c:Nat),(∀ b ob,s.heap.get? b=some ob->s'.heap.get? b=some ob)->s'.gens=s.gens->s'.os=s.os->s'.heap.get? s.heap.objs.size=some {cls:= .type "list",dict:=none,data:= .seq vs c,slots:= #[]}->ItemsOf (fun i v=> ∃ e,ord[i]? = some e/\v=e.2) vs es.size->
   wpAny (model prog w) A (load s.heap.objs.size>>=fun o=>match o.data with | .seq xs _=>pure xs.toList | _=>unsupported "internal:collect") Q E s':=fun s' vs c k g1 g2 e it1=>by
  refine qaW (wpAny_load e (qaX (q vs.toList s' es ep tb ?_ ?_ k g1 g2)))
  ·obtain ⟨ob,o1,o2⟩:=hob
   obtain ⟨ob',es',ep',tb',⟨p1,p2,p3⟩,_⟩:=g
   have:=k1 _ _ p1
   rw [o1] at this
   cases this
   exact ⟨ob,p1,o2⟩
  ·have hl:ord.length=es.size:=by simpa using W.perm.length_eq
   have e2:vs.toList=ord.map (·.2):=by
    apply List.ext_getElem?
    intro i
    by_cases hi:i<es.size
    ·have hv0:i<vs.size:=by rw [it1.1];exact hi
     have hv:vs[i]? = some vs[i]:=by simp [hv0]
     obtain ⟨e,e1,e2⟩:=it1.2 i _ hv
     rw [List.getElem?_map,e1,Array.getElem?_toList,hv,e2]
     rfl
    ·rw [List.getElem?_eq_none (by simp [it1.1];omega),List.getElem?_eq_none (by simp [hl];omega)]
   rw [e2]
   exact W.perm.map _
 have Wk:=(W.walks A.in1 hh).toS
 refine qaX ⟨plainId_quiet F.plain_extend_loop _,codeAny_extend_loopS Wk ?_ _ nfp _ es.size 0 _ _ _ rfl (Nat.zero_le _) ?_ l4 (ItemsOf.nil _) fun s' vs c mv e it1=> ?_⟩
 ·exact fits_of_scanBound few
 ·exact (W.walks A.in1 hh).frame 0 h2 _ st0 fun b hb ob e=>oth b ob (fun z=>nfp (z▸hb)) e
 ·refine fin s' vs c (fun b ob e'=>mv.heap b ob ?_ (oth b ob ?_ (k12 b ob e'))) mv.gens mv.os e it1
  ·intro z
   rcases qaP.mp z with z | z
   ·exact qaN _ (z▸qaQ e')
   ·simp only [qaP,qaF,or_false] at z
    have:=qaQ e'
    rw [z] at this
    exact qaN _ (qaw this (qaS (by rw [qaL];exact Nat.le_succ _) lit))
  ·exact fun z=>qaN _ (z▸qaQ e')
end
noncomputable def zmQ (x:Int):List Int->List Int
 | []=>[x]
 | y::r=>if x<=y then x::y::r else y::zmQ x r
noncomputable def zbD:List Int->List Int
 | []=>[]
 | x::r=>zmQ x (zbD r)
theorem zeC (x:Int): ∀ l:List Int,List.Perm (zmQ x l) (x::l)
 | []=> .rfl
 | y::r=>by
  unfold zmQ
  split
  ·exact .rfl
  ·exact ((zeC x r).cons y).trans (.swap x y r)
theorem zlZ {x z:Int} {l:List Int}:z∈zmQ x l↔z=x\/z∈l:=by rw [(zeC x l).mem_iff,qaP]
theorem zj7 (x:Int): ∀ l:List Int,l.Pairwise (· <= ·)->(zmQ x l).Pairwise (· <= ·)
 | [],_=>by unfold zmQ;simp
 | y::r,h=>by
  obtain ⟨h1,h2⟩:=qay.mp h
  unfold zmQ
  split
  ·rename_i hxy
   refine qay.mpr ⟨fun z hz=> ?_,h⟩
   rcases qaP.mp hz with e | hz
   ·rw [e];exact hxy
   ·exact Int.le_trans hxy (h1 z hz)
  ·rename_i hxy
   refine qay.mpr ⟨fun z hz=> ?_,zj7 x r h2⟩
   rcases zlZ.mp hz with e | hz
   ·rw [e];omega
   ·exact h1 z hz
theorem zax: ∀ l:List Int,List.Perm (zbD l) l
 | []=> .rfl
 | x::r=>(zeC x _).trans ((zax r).cons x)
theorem zdh: ∀ l:List Int,(zbD l).Pairwise (· <= ·)
 | []=> .nil
 | x::r=>zj7 x _ (zdh r)
theorem zem {a b:List Int} (hp:a.Perm b) (h:a.Pairwise (· <= ·)):a=zbD b:=W.ksm_same (hp.trans (zax b).symm) h (zdh b)
noncomputable def zei (ns:List Int):List Int:=zbD (ns.foldl step_dedup [])
theorem zj3 (ns:List Int): ∀ (acc:List Int) (k:Int),(ns.foldl step_dedup acc).any (· == k)=(acc.any (· == k) || ns.any (· == k)):=by
 induction ns with
 | nil=>intro acc k;simp
 | cons x r ih=>
  intro acc k
  rw [List.foldl_cons,ih,step_any]
  simp only [List.any_cons]
  have:(x==k)=decide (k=x):=by
   by_cases h:k=x
   ·subst h;simp
   ·have h': ¬x=k:=fun e=>h e.symm
    simp [h,h']
  rw [this,Bool.or_assoc]
theorem zjN {ns:List Int} {k:Int}:k∈ns.foldl step_dedup []↔k∈ns:=by
 have:=zj3 ns [] k
 simp only [List.any_nil,Bool.false_or] at this
 have e: ∀ l:List Int,k∈l↔(l.any fun x=>x==k)=true:=fun l=>by
  rw [List.any_eq_true]
  constructor
  ·exact fun h=>⟨k,h,by simp⟩
  ·rintro ⟨x,h,c⟩
   have c:x=k:=by simpa using c
   rw [<- c]
   exact h
 rw [e,e,this]
theorem zey (ns:List Int): ∀ acc:List Int,acc.Nodup->(ns.foldl step_dedup acc).Nodup:=by
 induction ns with
 | nil=>intro acc h;exact h
 | cons x r ih=>
  intro acc h
  refine ih _ ?_
  unfold step_dedup
  split
  ·exact h
  ·rename_i hx
   rw [List.nodup_append]
   refine ⟨h,by simp,fun a ha b hb=> ?_⟩
   simp only [List.mem_singleton] at hb
   subst hb
   intro e
   subst e
   exact hx (List.any_eq_true.mpr ⟨a,ha,by simp⟩)
theorem zcb {ns:List Int} {k:Int}:k∈zei ns↔k∈ns:=by unfold zei;rw [(zax _).mem_iff,zjN]
theorem zd0 (ns:List Int):(zei ns).Pairwise (· < ·):=by
 have h1:=zdh (ns.foldl step_dedup [])
 have h2:(zei ns).Nodup:=(zax _).nodup_iff.mpr (zey ns [] List.nodup_nil)
 exact (List.Pairwise.and h1 h2).imp fun ⟨a,b⟩=>by omega
theorem zeE (ns:List Int):firstMet (fun i=>ns.getD i 0) ns.length=ns.foldl step_dedup []:=by
 unfold firstMet
 congr 1
 apply List.ext_getElem?
 intro i
 by_cases hi:i<ns.length
 ·simp [hi,List.getD]
 ·rw [List.getElem?_eq_none (by simp;omega),List.getElem?_eq_none (by omega)]
theorem zeB: ∀ {fm ms:List Int},fm.Nodup->(∀ k,k∈fm->k∈ms)->ms.length<=fm.length->List.Perm ms fm
 | [],ms,_,_,h=>by
  have:ms=[]:=List.length_eq_zero_iff.mp (by simpa using h)
  subst this
  exact .rfl
 | x::r,ms,nd,hm,h=>by
  obtain ⟨n1,n2⟩:=List.nodup_cons.mp nd
  have hx:=hm x (.head _)
  have p:=List.perm_cons_erase hx
  have hl:=p.length_eq
  rw [qaE] at hl h
  refine p.trans ((zeB n2 (fun k hk=> ?_) (by omega)).cons x)
  have hne:k≠x:=fun e=>n1 (e▸hk)
  rcases qaP.mp (p.mem_iff.mp (hm k (.tail _ hk))) with e | e
  ·exact absurd e hne
  ·exact e
section
variable {prog:Program} {w:World} {A:Around} {E:Value->Shared->Prop} {s:Shared}
theorem zgZ {l l':List Value} {ns:List Int} (p:List.Perm l l') (h:IntsAre l' ns): ∃ ms,IntsAre l ms/\List.Perm ms ns:=by
 induction p generalizing ns with
 | nil=>exact ⟨ns,h,.rfl⟩
 | cons x _ ih=>
  cases h with
  | cons n t h=>
   obtain ⟨ms,h1,h2⟩:=ih h
   exact ⟨n::ms,.cons n t h1,h2.cons n⟩
 | swap x y l=>
  cases h with
  | cons n t h=>
   cases h with
   | cons n' t' h=>exact ⟨n'::n::_,.cons n' t' (.cons n t h),.swap _ _ _⟩
 | trans _ _ ih1 ih2=>
  obtain ⟨ms,h1,h2⟩:=ih2 h
  obtain ⟨ms',h3,h4⟩:=ih1 h1
  exact ⟨ms',h3,h4.trans h2⟩
theorem zfp: ∀ {es:List (Int×Value)},ElemsOf (intKind prog w) es-> ∃ ms,IntsAre (es.map (·.2)) ms/\ ∀ k,k∈ms↔ ∃ e∈es,(intKind prog w).is k e.2=true
 | [],_=>⟨[],.nil,fun k=>by simp⟩
 | e::r,h=>by
  obtain ⟨ms,h1,h2⟩:=zfp (ElemsOf.tail h)
  obtain ⟨⟨k,hk,_⟩,_⟩:=ElemsOf.head h
  obtain ⟨t,ht⟩:=Value.isInt_shape (k:=k) (v:=e.2) hk
  refine ⟨k::ms,by rw [qaM,ht];exact .cons k t h1,fun z=> ?_⟩
  rw [qaP,h2 z]
  constructor
  ·rintro (c | ⟨e',c1,c2⟩)
   ·exact ⟨e,.head _,by rw [c];exact hk⟩
   ·exact ⟨e',.tail _ c1,c2⟩
  ·rintro ⟨e',c1,c2⟩
   rcases qaP.mp c1 with c | c
   ·subst c;exact .inl ((intKind prog w).inj _ _ _ c2 hk)
   ·exact .inr ⟨e',c,c2⟩
theorem ze4 {x:Value} {Q:Value->Shared->Prop} (hc: ∀ E':Value->Shared->Prop,wpAny (model prog w) A.in1 (collect x) (fun vs s1=> ∃ ns,IntsAre vs ns/\vs.length<64/\ ∀ out e h',IntsAre out (zbD ns)->(∀ b ob,s1.heap.get? b=some ob->h'.get? b=some ob)->
      h'.get? s1.heap.objs.size=some (seqObj "list" out.toArray e)->Q (.ref s1.heap.objs.size) {s1 with heap:=h'}) E' s):wpAny (model prog w) A (call (.builtin "sorted") [x]) Q E s:=by
 refine Calls.call_function_entry kind_sorted plain_sorted entry_sorted (args_sorted1 _) ?_
 unfold Builtin.«sorted»
 refine qaW (m:=checkCount "sorted" 1 1 _) (qaX ?_)
 refine qaW (m:=collect x) (qaZ (hc _) (fun vs s1 ⟨ns,hI,h64,q⟩=> ?_) fun _ _ z=>z)
 have small:vs.length<=sizeLine:=qaS (Nat.le_of_lt h64) (by decide)
 refine qaW (wpAny_newList ?_ small)
 have at0:(s1.heap.push {cls:= .type "list",data:= .seq vs.toArray}).get? s1.heap.objs.size=some (seqObj "list" vs.toArray 0):=qar _ rfl
 refine qaW (qaO (wpAny_call_entry slot_list_sort ⟨_,at0,rfl⟩ entry_list_sort (list_sort_tree (s:={s1 with heap:=s1.heap.push {cls:= .type "list",data:= .seq vs.toArray}}) at0 hI h64 fun out ns' a1 a2 a3=>⟨_,rfl,?_⟩) (args_list_sort _)))
 obtain ⟨e,he⟩:=sortedHeap_at (out:=out) at0
 refine qaX ⟨_,rfl,q out.toList e _ ?_ (fun b ob eb=> ?_) (by simpa using he)⟩
 ·rw [<- zem a2 a3];exact a1
 ·have lt:=qaQ eb
  rw [sortedHeap_old (qaR lt) (by rw [qaL];exact Nat.lt_succ_of_lt lt)]
  exact qag _ eb
theorem zhw {l:Addr} {vs:List Value} {Q:List Value->Shared->Prop} (hl:s.heap.IsTuple l vs.toArray) (small:vs.length<=sizeLine)
  (q: ∀ h',(∀ b ob,s.heap.get? b=some ob->h'.get? b=some ob)->Q vs {s with heap:=h'}):wpAny (model prog w) A (collect (.ref l)) Q E s:=by
 obtain ⟨ob,ho,hc,n,hd⟩:=id hl
 unfold collect
 refine qaW (wpAny_runValue (codeAny_builtin F.entry_proto_collect ?_))
 rw [qap F.plain_proto_collect _]
 show wpAny _ _ (newList []>>=fun d=>again (.builtin "list.__iadd__" ⟨[d,.ref l],[]⟩)) _ _ _
 refine qaW (qaC (qaX ⟨plainId_quiet F.plain_list_iadd _,codeAny_builtin F.entry_list_iadd ?_⟩))
 rw [qap F.plain_list_iadd _]
 show wpAny _ _ (Builtin.List.listExtendWith (.ref s.heap.objs.size) (.ref l) (.ref s.heap.objs.size)) _ _ _
 unfold Builtin.List.listExtendWith
 have ho':(s.heap.push {cls:= .type "list",data:= .seq ([]:List Value).toArray}).get? l=some ob:=qag _ ho
 have d0:(s.heap.push {cls:= .type "list",data:= .seq ([]:List Value).toArray}).get? s.heap.objs.size=some (seqObj "list" #[] 0):=qar _ rfl
 refine qaW (wpAny_typeOf (T:="tuple") ⟨ob,ho',hc⟩ ?_)
 rw [qa4 (by simp)]
 refine qaW (listItems_at ho' hd ?_)
 refine qaW (listItems_at d0 rfl ?_)
 rw [qa5 (by simp)]
 refine qaW (listUpdate_at (xs:= #[]) (n:=0) d0 rfl ?_ (Nat.zero_le _) (by show (#[]++vs.toArray).size<=sizeLine+1;simp;omega))
 refine qaX ?_
 show wpAny _ _ (load s.heap.objs.size>>=fun o=>match o.data with | .seq xs _=>pure xs.toList | _=>unsupported "internal:collect") _ _ _
 refine qaW (wpAny_load (get?_update_seq d0 _) ?_)
 have z:=q ((s.heap.push {cls:= .type "list",data:= .seq ([]:List Value).toArray}).update s.heap.objs.size (Obj.mapSeq fun x=>x++vs.toArray)) fun b ob e=>(qah _ _ (fun z=>qaN _ (z▸qaQ e))).trans (qag _ e)
 show wpAny _ _ (pure ((#[]:Array Value)++vs.toArray).toList) _ _ _
 rw [show ((#[]:Array Value)++vs.toArray).toList=vs by simp]
 exact qaX z
end
end LT
namespace L2
open PySem PySem.Spec PyProof.Rows LT
section
variable {X:Cx}
noncomputable def zkK (P:Program) (w:World) (p:Addr) (ns:List Int):HO:= .ext fun h=>zgi P w h p (fun z=>(ns.foldl step_dedup []).any (· == z)) (ns.foldl step_dedup []).length
theorem zki (ns:List Int):(ns.foldl step_dedup []).length<=ns.length:=by
 rw [<- zeE]
 exact firstMet_length_le _ _
theorem zkZ (hc:X.calm=true):zaM X (.type "set") (fun xs H Q=> ∃ (a:Addr) (ns:List Int),xs=[.ref a]/\(SqL X.K H a (ns.map V.int)\/SqT X.K H a (ns.map V.int))/\ns.length<4000/\ ∀ p,H p=none->Q (.ref p) (upd H p (zkK X.prog X.w p ns))):=by
 intro pins s σ H xs us Q I r h
 obtain ⟨a,ns,rfl,hq,hl,q⟩:=h
 obtain ⟨u,rfl,rx⟩:=zd5 r
 cases rx
 have fin: ∀ (items:Array Value),items.size=ns.length-> ∀ (h':Heap) (tk:Nat),zgi X.prog X.w h' s.heap.objs.size (fun z=>(firstMet (fun i=>ns.getD i 0) items.size).any (· == z)) (firstMet (fun i=>ns.getD i 0) items.size).length->(∀ b ob,s.heap.get? b=some ob->h'.get? b=some ob)->
   EP X pins σ Q (.ref s.heap.objs.size) {s with heap:=h',toks:=tk}:=fun items hz h' tk g k=>by
  rw [hz,zeE] at g
  refine ⟨.ref s.heap.objs.size,_,I.laid (t':=tk) (o:=zkK X.prog X.w s.heap.objs.size ns) k (qaV _) ⟨g,?_,fun h1 h2 z e=>z.move e (fun _=>rfl) rfl⟩,rfl,q _ (I.hok.fresh (qaV _))⟩
  obtain ⟨ob,es,ep,tb,⟨h1,_⟩,_⟩:=g
  exact ⟨ob,h1⟩
 have room:ns.length+1<scanBound:=by
  have:scanBound=4096:=rfl
  omega
 rcases hq with hq | hq
 ·obtain ⟨its,r',pl,_⟩:=I.list hq
  have hz:its.toArray.size=ns.length:=by rw [qaA, <-r'.length,qaH]
  exact ztb (I.ok.hd hc) (.inl ⟨rfl,pl.isList⟩) (by simpa using zbU r') (by rw [hz];exact room) fun h' tk g k=>fin _ hz h' tk g k
 ·obtain ⟨its,r',pl,_⟩:=I.tuple hq
  have hz:its.toArray.size=ns.length:=by rw [qaA, <-r'.length,qaH]
  exact ztb (I.ok.hd hc) (.inr ⟨rfl,pl⟩) (by simpa using zbU r') (by rw [hz];exact room) fun h' tk g k=>fin _ hz h' tk g k
theorem Inv.grown {pins:List (Addr×Obj)} {σ:St} {H:Hp} {s s':Shared} (I:Inv X pins σ H s) (ho:s'.os=s.os) (hg:s'.gens=s.gens) (k: ∀ b ob,s.heap.get? b=some ob->s'.heap.get? b=some ob):Inv X pins σ H s':=
 I.call' (ch:=[]) ho (Un.kept k) (I.hok.kept k) (by rw [hg];exact I.bare) fun b z=>nomatch z
theorem zmw {out:List Value} {ms:List Int} (h:IntsAre out ms):za2 (ms.map V.int) out:=zeP h
theorem zee (hc:X.calm=true):zaM X (.builtin "sorted") (fun xs H Q=> ∃ (p:Addr) (ns:List Int),xs=[.ref p]/\((((ns.foldl step_dedup []).length<64/\H p=some (zkK X.prog X.w p ns))/\ ∀ l,H l=none->Q (.ref l) (upd H l (.lst ((zei ns).map V.int))))\/
    ((ns.length<64/\(SqL X.K H p (ns.map V.int)\/SqT X.K H p (ns.map V.int)))/\ ∀ l,H l=none->Q (.ref l) (upd H l (.lst ((zbD ns).map V.int)))))):=by
 intro pins s σ H xs us Q I r h
 obtain ⟨p,ns,rfl,h⟩:=h
 obtain ⟨u,rfl,rx⟩:=zd5 r
 cases rx
 have fin: ∀ (s1:Shared) (ms:List Int),ms.length<=64->(∀ b ob,s.heap.get? b=some ob->s1.heap.get? b=some ob)->s1.gens=s.gens->s1.os=s.os->(∀ l,H l=none->Q (.ref l) (upd H l (.lst ((zbD ms).map V.int))))-> ∀ out e h',IntsAre out (zbD ms)->(∀ b ob,s1.heap.get? b=some ob->h'.get? b=some ob)->
   h'.get? s1.heap.objs.size=some (seqObj "list" out.toArray e)->EP X pins σ Q (.ref s1.heap.objs.size) {s1 with heap:=h'}:=fun s1 ms hm k g1 o1 q out e h' hi k2 e2=>by
  have I1:=I.grown o1 g1 k
  refine ⟨.ref s1.heap.objs.size,_,I1.laid (t':=s1.toks) (o:= .lst ((zbD ms).map V.int)) k2 (qaV _) ⟨?_,out,e,zmw hi,e2⟩,rfl,q _ (I1.hok.fresh (qaV _))⟩
  rw [qaH,(zax ms).length_eq]
  exact qaS hm (by decide)
 rcases h with ⟨⟨hl,hs⟩,q⟩ | ⟨⟨hl,hq⟩,q⟩
 ·obtain ⟨g,_⟩:=(show zbM X.prog X.w H s.heap p (zkK X.prog X.w p ns) from I.hok p _ hs)
  refine ze4 fun E'=>zmD (show X.A.in1.handled=none from I.ok.hd hc) g fun vs s1 es ep tb hob pv k g1 o1=> ?_
  obtain ⟨ob',es',ep',tb',⟨a1,a2,a3⟩,h4,h5,⟨h6,h7,h8⟩,h9⟩:=g
  obtain ⟨ob,b1,b2,b3⟩:=hob
  rw [a1] at b1
  cases b1
  rw [a3] at b3
  cases b3
  obtain ⟨ms,m1,m2⟩:=zfp h4
  obtain ⟨ms',m3,m4⟩:=zgZ pv m1
  have len:ms.length=(ns.foldl step_dedup []).length:=by
   rw [<- m1.length,qaH,qas]
   exact h8
  have pm:List.Perm ms (ns.foldl step_dedup []):=zeB (zey ns [] List.nodup_nil) (fun z hz=>by
    rw [m2 z, <-h5 z]
    exact List.any_eq_true.mpr ⟨z,hz,by simp⟩) (Nat.le_of_eq len)
  have es1:zbD ms'=zei ns:=by
   unfold zei
   exact zem ((zax ms').trans (m4.trans pm)) (zdh ms')
  have lm:ms'.length<64:=by
   rw [m4.length_eq,len]
   exact hl
  refine ⟨ms',m3,by rw [m3.length];omega,fun out e h' hi k2 e2=> ?_⟩
  exact fin s1 ms' (by omega) k g1 o1 (by rw [es1];exact q) out e h' hi k2 e2
 ·rcases hq with hq | hq
  ·obtain ⟨its,r',pl,hz⟩:=I.list hq
   have hi:=zbU r'
   have lz:its.length=ns.length:=by rw [<- r'.length,qaH]
   refine ze4 fun E'=>collect_list pl.isList ?_ (by rw [lz, <-qaH (f:=V.int)];exact hz)
   refine ⟨ns,hi,by omega,fun out e h' hi2 k2 e2=> ?_⟩
   refine fin {s with heap:=(s.heap.push (seqObj "list" #[] 0)).update s.heap.objs.size (Obj.mapSeq fun x=>x++its.toArray)} ns (by omega) (fun b ob eb=> ?_) rfl rfl q out e h' hi2 k2 e2
   exact (qah _ _ (fun z=>qaN _ (z▸qaQ eb))).trans (qag _ eb)
  ·obtain ⟨its,r',pl,hz⟩:=I.tuple hq
   have hi:=zbU r'
   have lz:its.length=ns.length:=by rw [<- r'.length,qaH]
   refine ze4 fun E'=>zhw pl (by rw [lz, <-qaH (f:=V.int)];exact hz) fun h1 k1=> ?_
   refine ⟨ns,hi,by omega,fun out e h' hi2 k2 e2=> ?_⟩
   exact fin {s with heap:=h1} ns (by omega) k1 rfl rfl q out e h' hi2 k2 e2
theorem zly (hc:X.calm=true):zaM X (.builtin "all") (fun xs H Q=> ∃ (a:Addr) (bs:List Bool),xs=[.ref a]/\SqL X.K H a (bs.map V.bl)/\Q (.bl (bs.all id)) H):=by
 intro pins s σ H xs us Q I r h
 obtain ⟨a,bs,rfl,hq,q⟩:=h
 obtain ⟨u,rfl,rx⟩:=zd5 r
 cases rx
 obtain ⟨its,r',pl,hz⟩:=I.list hq
 have hlt:a<s.heap.objs.size:=by obtain ⟨_,e,_⟩:=pl.isList;exact qaQ e
 refine call_all_walk (wpAny_pyIter_list pl.isList ?_)
 refine ⟨s.heap.objs.size,[s.heap.objs.size,a],[s.heap.objs.size],its.toArray.size,_,_,fun i=>(bs[i]?).getD true,rfl,Walks.list (A:=X.A.in1) (I.ok.hd hc) _ a (qaR hlt) its.toArray,⟨⟨_,qar _ rfl,rfl,rfl⟩,pl.isList.push _⟩,fun i v s' Q' E' hP hQ=> ?_,fun h' tk hk=> ?_⟩
 ·have hv:its[i]? = some v:=by simpa using hP
  obtain ⟨hi,_⟩:=qac.mp hv
  have hlen:bs.length=its.length:=by rw [<- r'.length,qaH]
  have hb:(bs.map V.bl)[i]? = some (V.bl bs[i]):=by simp [hlen,hi]
  obtain ⟨u',hu,ru⟩:=r'.get hb
  rw [hv] at hu
  cases hu
  cases ru
  have e:(bs[i]?).getD true=bs[i]:=by simp [hlen,hi]
  have hQ:Q' ((bs[i]?).getD true) s':=hQ
  rw [e] at hQ
  exact wpAny_truthy_bool hQ
 ·have e:((List.range its.toArray.size).all fun i=>(bs[i]?).getD true)=bs.all id:=by
   have hlen:bs.length=its.length:=by rw [<- r'.length,qaH]
   rw [qaA, <-hlen]
   rw [Bool.eq_iff_iff,List.all_eq_true,List.all_eq_true]
   constructor
   ·intro h x hx
    obtain ⟨i,hi⟩:=List.mem_iff_getElem?.mp hx
    have hl:=(qac.mp hi).1
    have:=h i (by simpa using hl)
    rw [hi] at this
    exact this
   ·intro h i hi
    have hl:i<bs.length:=by simpa using hi
    have e1:bs[i]? = some bs[i]:=by simp [hl]
    rw [e1]
    exact h _ (List.getElem_mem hl)
  rw [e]
  refine ⟨.bl _,H,I.grown (s':={s with heap:=h',toks:=tk}) rfl rfl fun b ob eb=>hk b ob (fun z=> ?_) (qag _ eb),rfl,q⟩
  simp only [qaP,qaF,or_false] at z
  exact qaN _ (z▸qaQ eb)
theorem zk4 (hc:X.calm=true):zaM X (.builtin "sum") (fun xs H Q=> ∃ (a:Addr) (ns:List Int),xs=[.ref a]/\SqL X.K H a (ns.map V.int)/\Q (.int ns.sum) H):=by
 intro pins s σ H xs us Q I r h
 obtain ⟨a,ns,rfl,hq,q⟩:=h
 obtain ⟨u,rfl,rx⟩:=zd5 r
 cases rx
 obtain ⟨its,r',pl,hz⟩:=I.list hq
 have hi:=zbU r'
 obtain ⟨ys,hy⟩:=hi.allInts.items
 have hl:s.heap.IsList a (intItems ys):=hy▸pl.isList
 refine sum_intListG (I.ok.hd hc) hl fun h' tk t' hk=> ?_
 have e1:ns=ys.toList.map (·.1):=by
  rw [<- nums_intItems, <-hy]
  exact (show numsOf its.toArray.toList=ns from hi.numsOf).symm
 have e2:preSum (numAt ys) ys.size=ns.sum:=by rw [preSum_eq,List.take_of_length_le (by simp),e1]
 rw [e2]
 exact ⟨.int ns.sum,H,I.grown (s':={s with heap:=h',toks:=tk}) rfl rfl hk,⟨t',rfl⟩,q⟩
end
end L2
namespace L3
open PySem PySem.Spec PyProof.Rows L2 LT
section
variable {X:Cx} {E:XE} {e:Expr} {es:List Expr} {pos p:Pos} {fs:Sd->M (List D)} {x:Str}
theorem zmA {id:String} {F:List D->M D} (hc:zaM X (.builtin id) (zhs X.K E F)) (hg:Gl X x) (hm:X.mg x=none) (hv:bootBuiltins x=some (.builtin id)) (ha:SA X E (e::es) fs) (hn:x≠"__name__":=by decide) (hdb:(x==("__debug__":Str))=false:=by decide)
  (he:starEach (e::es) X.env=(false,eval e X.env)::starEach es X.env:=by rfl) (hpl:(backTo pos (starEach es X.env)).any (·.1)=false:=by rfl):SE X E (.Call (.Name x p) (e::es) [] pos) (fun sd=>do let ds<-fs sd;F ds):=
 PE.imp (zdS hc hg hm hv ha hn hdb he hpl) fun σ H Q ⟨ι,h,sd,L,hh,q⟩=>⟨ι,h,sd,L,hh,Fin.bind q fun ds h1 ι1 H1 e1 s1 hr1 q1 vs rv=>⟨ι1,h1,ds,rv,hr1,q1⟩⟩
theorem zks {T:String} {F:List D->M D} (hc:zaM X (.type T) (zhs X.K E F)) (hg:Gl X x) (hm:X.mg x=none) (hv:bootBuiltins x=some (.type T)) (ha:SA X E (e::es) fs) (hn:x≠"__name__":=by decide) (hdb:(x==("__debug__":Str))=false:=by decide)
  (he:starEach (e::es) X.env=(false,eval e X.env)::starEach es X.env:=by rfl) (hpl:(backTo pos (starEach es X.env)).any (·.1)=false:=by rfl):SE X E (.Call (.Name x p) (e::es) [] pos) (fun sd=>do let ds<-fs sd;F ds):=
 PE.imp (zha hc hg hm hv ha hn hdb he hpl) fun σ H Q ⟨ι,h,sd,L,hh,q⟩=>⟨ι,h,sd,L,hh,Fin.bind q fun ds h1 ι1 H1 e1 s1 hr1 q1 vs rv=>⟨ι1,h1,ds,rv,hr1,q1⟩⟩
noncomputable def zlK:D->M (List D)
 | .tup ds=>pure ds
 | .lst ds=>pure ds
 | .scr ds=>pure ds
 | .cel n=>zan n
 | _=>M.bad
theorem zdC {K:W.Frag} {ι:Io} {H:Hp} {h:Hh} {d:D} {v:V} {α:Type} {f:List D->M α} {P:α->Io->Hp->Prop} (hr:za9 K ι H h) (r:Rel K ι H d v) (q:Fin K E ι H ((do let ds<-zlK d;f ds) h) P):
  ∃ a vs ds,v= .ref a/\((SqL K H a vs/\ ∀ ts,d≠ .tup ts)\/(SqT K H a vs/\d= .tup ds))/\zat K ι H ds vs/\Fin K E ι H (f ds h) P:=by
 cases d with
 | tup ds=>
  obtain ⟨a,vs,e,h1,h2⟩:=zdt r
  exact ⟨a,vs,ds,e,.inr ⟨h1,rfl⟩,h2,q⟩
 | lst ds=>
  obtain ⟨a,vs,e,h1,h2⟩:=zdG r
  exact ⟨a,vs,ds,e,.inl ⟨h1,fun _ z=>by cases z⟩,h2,q⟩
 | scr ds=>
  obtain ⟨a,vs,e,h1,h2⟩:=zjL r
  exact ⟨a,vs,ds,e,.inl ⟨h1,fun _ z=>by cases z⟩,h2,q⟩
 | cel n=>
  have q':Fin K E ι H (M.bind (zan n) f h) P:=q
  unfold M.bind at q'
  cases z:zan n h with
  | bad=>rw [z] at q';exact qa0 q'
  | exc c h'=>unfold zan at z;split at z<;>cases z
  | ok ds h'=>
   rw [z] at q'
   obtain ⟨rfl,z2⟩:=zcx z
   obtain ⟨a,vs,e,hn,hH,rl⟩:=hr.read r z2
   exact ⟨a,vs,ds,e,.inl ⟨SqL.of hH,fun _ z=>by cases z⟩,rl,q'⟩
 | _=>exact qa0 q
theorem znq {K:W.Frag} {H:Hp} {a:Addr} {vs:List V} {d:D} {ds:List D} (h:(SqL K H a vs/\ ∀ ts,d≠ .tup ts)\/(SqT K H a vs/\d= .tup ds)):SqL K H a vs\/SqT K H a vs:=h.imp And.left And.left
theorem zr3 {K:W.Frag} {ι:Io} {H:Hp} {d:D} {xs:List V} (h:zat K ι H [d] xs): ∃ v,xs=[v]/\Rel K ι H d v:=by
 simp only [zat] at h
 obtain ⟨v,r,rfl,h1,rfl⟩:=h
 exact ⟨v,rfl,h1⟩
noncomputable def zmU {α:Type} (f:D->M α):List D->M α
 | [d]=>f d
 | _=>M.bad
theorem zcD {α:Type} {K:W.Frag} {ι:Io} {H:Hp} {h:Hh} {f:D->M α} {ds:List D} {xs:List V} {P:α->Io->Hp->Prop} (rl:zat K ι H ds xs) (q:Fin K E ι H (zmU f ds h) P): ∃ d v,xs=[v]/\Rel K ι H d v/\Fin K E ι H (f d h) P:=by
 match ds,rl,q with
 | [d],rl,q=>
  obtain ⟨v,e,r⟩:=zr3 rl
  exact ⟨d,v,e,r,q⟩
 | [],_,q=>exact qa0 q
 | _::_::_,_,q=>exact qa0 q
noncomputable def zgh:List D->M D:=zmU fun d=>do let ds<-zlK d;pure (.int ds.length)
theorem za6:zaM X (.builtin "len") (zhs X.K E zgh):=by
 refine zaM.imp zhh fun xs H Q ⟨ι,h,ds,rl,hr,q⟩=> ?_
 obtain ⟨d,v,e,r,q⟩:=zcD rl q
 obtain ⟨a,vs,ds',e',hs,rl',q⟩:=zdC hr r q
 exact ⟨a,vs,by rw [e,e'],znq hs,Fin.out hr q _ (by rw [rl'.length];simp [Rel])⟩
noncomputable def zb2:List D->M D:=zmU fun d=>do let ds<-zlK d;pure (.tup ds)
theorem zaJ:zaM X (.type "tuple") (zhs X.K E zb2):=by
 refine zaM.imp zf5 fun xs H Q ⟨ι,h,ds,rl,hr,q⟩=> ?_
 obtain ⟨d,v,e,r,q⟩:=zcD rl q
 obtain ⟨a,vs,ds',e',hs,rl',q⟩:=zdC hr r q
 refine ⟨a,vs,by rw [e,e'],?_⟩
 rcases hs with ⟨hs,_⟩ | ⟨hs,hd⟩
 ·exact .inl ⟨hs,fun l hl=>zrC hr rl' q hl⟩
 ·exact .inr ⟨hs,Fin.out hr q _ (by rw [<- e', <-hd];exact r)⟩
noncomputable def zsX:List D->M D:=zmU fun d=>do let ds<-zlK d;pure (.lst ds)
noncomputable def two2 (g:Int->Int->Int):List D->M D
 | [.int i,.int j]=>pure (.int (g i j))
 | _=>M.bad
theorem two2_inv {K:W.Frag} {ι:Io} {H:Hp} {h:Hh} {g:Int->Int->Int} {ds:List D} {xs:List V} {P:D->Io->Hp->Prop} (hr:za9 K ι H h) (rl:zat K ι H ds xs) (q:Fin K E ι H (two2 g ds h) P): ∃ i j,xs=[.int i,.int j]/\P (.int (g i j)) ι H:=by
 unfold two2 at q
 split at q
 ·simp only [zat,Rel] at rl
  obtain ⟨v,r,rfl,rfl,v',r',rfl,rfl,rfl⟩:=rl
  exact ⟨_,_,rfl,Fin.out hr q⟩
 ·exact qa0 q
noncomputable def zos:=two2 fun i j=>if j>i then j else i
noncomputable def zn7:=two2 fun i j=>if j<i then j else i
theorem zjh (hc:X.calm=true):zaM X (.builtin "max") (zhs X.K E zos):=by
 refine zaM.imp (zkB hc) fun xs H Q ⟨ι,h,ds,rl,hr,q⟩=> ?_
 obtain ⟨i,j,e,q⟩:=two2_inv hr rl q
 exact ⟨i,j,e,q _ (by simp [Rel])⟩
theorem zi1 (hc:X.calm=true):zaM X (.builtin "min") (zhs X.K E zn7):=by
 refine zaM.imp (zkP hc) fun xs H Q ⟨ι,h,ds,rl,hr,q⟩=> ?_
 obtain ⟨i,j,e,q⟩:=two2_inv hr rl q
 exact ⟨i,j,e,q _ (by simp [Rel])⟩
noncomputable def zl0:List D->Option (List Bool)
 | []=>some []
 | .bl b::r=>(zl0 r).map (b:: ·)
 | _=>none
noncomputable def zcP:List D->Option (List Int)
 | []=>some []
 | .int i::r=>(zcP r).map (i:: ·)
 | _=>none
theorem zf3 {K:W.Frag} {ι:Io} {H:Hp}: ∀ {ds:List D} {vs:List V} {bs:List Bool},zat K ι H ds vs->zl0 ds=some bs->vs=bs.map V.bl
 | [],_,_,h,e=>by simp only [zat] at h;subst h;cases e;rfl
 | d::ds,_,bs,h,e=>by
  simp only [zat] at h
  obtain ⟨v,r,rfl,h1,h2⟩:=h
  cases d with
  | bl b=>
   unfold zl0 at e
   cases z:zl0 ds with
   | none=>rw [z] at e;cases e
   | some cs=>
    rw [z] at e
    cases e
    simp only [Rel] at h1
    rw [h1,zf3 h2 z]
    rfl
  | _=>cases e
theorem zcC {K:W.Frag} {ι:Io} {H:Hp}: ∀ {ds:List D} {vs:List V} {bs:List Int},zat K ι H ds vs->zcP ds=some bs->vs=bs.map V.int
 | [],_,_,h,e=>by simp only [zat] at h;subst h;cases e;rfl
 | d::ds,_,bs,h,e=>by
  simp only [zat] at h
  obtain ⟨v,r,rfl,h1,h2⟩:=h
  cases d with
  | int b=>
   unfold zcP at e
   cases z:zcP ds with
   | none=>rw [z] at e;cases e
   | some cs=>
    rw [z] at e
    cases e
    simp only [Rel] at h1
    rw [h1,zcC h2 z]
    rfl
  | _=>cases e
theorem Fin.ofOb {α β:Type} {K:W.Frag} {ι:Io} {H:Hp} {h:Hh} {o:Option α} {f:α->M β} {P:β->Io->Hp->Prop} (q:Fin K E ι H ((do let a<-L3.ofO o;f a) h) P): ∃ a,o=some a/\Fin K E ι H (f a h) P:=by
 cases o with
 | none=>exact qa0 q
 | some a=>exact ⟨a,rfl,q⟩
noncomputable def zsR:List D->M D:=zmU fun d=>match d with
 | .lst ds=>do let bs<-ofO (zl0 ds);pure (.bl (bs.all id))
 | _=>M.bad
theorem zkL (hc:X.calm=true):zaM X (.builtin "all") (zhs X.K E zsR):=by
 refine zaM.imp (zly hc) fun xs H Q ⟨ι,h,ds,rl,hr,q⟩=> ?_
 obtain ⟨d,v,e,r,q⟩:=zcD rl q
 cases d with
 | lst ds=>
  obtain ⟨a,vs,e',h1,h2⟩:=zdG r
  obtain ⟨bs,eb,q⟩:=Fin.ofOb q
  have:=zf3 h2 eb
  subst this
  exact ⟨a,bs,by rw [e,e'],h1,Fin.out hr q _ (by simp [Rel])⟩
 | _=>exact qa0 q
noncomputable def zp8:List D->M D:=zmU fun d=>match d with
 | .lst ds=>do let bs<-ofO (zcP ds);pure (.int bs.sum)
 | _=>M.bad
theorem zkv (hc:X.calm=true):zaM X (.builtin "sum") (zhs X.K E zp8):=by
 refine zaM.imp (zk4 hc) fun xs H Q ⟨ι,h,ds,rl,hr,q⟩=> ?_
 obtain ⟨d,v,e,r,q⟩:=zcD rl q
 cases d with
 | lst ds=>
  obtain ⟨a,vs,e',h1,h2⟩:=zdG r
  obtain ⟨bs,eb,q⟩:=Fin.ofOb q
  have:=zcC h2 eb
  subst this
  exact ⟨a,bs,by rw [e,e'],h1,Fin.out hr q _ (by simp [Rel])⟩
 | _=>exact qa0 q
noncomputable def ze0:List D->M D:=zmU fun d=>do
 let ds<-zlK d
 let ns<-ofO (zcP ds)
 if ns.length<64 then pure (.lst ((zbD ns).map D.int)) else M.bad
theorem zeb (hc:X.calm=true):zaM X (.builtin "sorted") (zhs X.K E ze0):=by
 refine zaM.imp (zee hc) fun xs H Q ⟨ι,h,ds,rl,hr,q⟩=> ?_
 obtain ⟨d,v,e,r,q⟩:=zcD rl q
 obtain ⟨a,vs,ds',e',hs,rl',q⟩:=zdC hr r q
 obtain ⟨ns,en,q⟩:=Fin.ofOb q
 have:=zcC rl' en
 subst this
 obtain ⟨hl,q⟩:=Fin.guard q
 exact ⟨a,ns,by rw [e,e'],.inr ⟨⟨hl,znq hs⟩,fun l hl=>zrJ hr (zc0.mpr rfl) q hl⟩⟩
noncomputable def zbP (d:D):M D:=do
 let ds<-zlK d
 let ns<-ofO (zcP ds)
 if (ns.foldl step_dedup []).length<64/\ns.length<4000 then pure (.lst ((zei ns).map D.int)) else M.bad
theorem zjg {p1 p2 pos2:Pos} {f:Sd->M D} (hc:X.calm=true) (hg1:Gl X "sorted") (hm1:X.mg "sorted"=none) (hg2:Gl X "set") (hm2:X.mg "set"=none) (he:SE X E e f)
  (h1:starEach [.Call (.Name "set" p2) [e] [] pos2] X.env=[(false,eval (.Call (.Name "set" p2) [e] [] pos2) X.env)]:=by rfl) (h2:starEach [e] X.env=[(false,eval e X.env)]:=by rfl):
  SE X E (.Call (.Name "sorted" p1) [.Call (.Name "set" p2) [e] [] pos2] [] pos) (fun sd=>do let d<-f sd;zbP d):=by
 refine PE.imp (zdS (zee hc) hg1 hm1 boot_sorted (zbt (zha (zkZ hc) hg2 hm2 PyProof.Rows.boot_set (zbt he zcV h2) (he:=h2)) zcV h1) (he:=h1)) fun σ H Q ⟨ι,h,sd,L,hh,q⟩=>⟨ι,h,sd,L,hh,Fin.bind q fun d h1 ι1 H1 e1 s1 hr1 q1 v rv=> ?_⟩
 obtain ⟨a,vs,ds',e',hs,rl',q2⟩:=zdC hr1 rv q1
 obtain ⟨ns,en,q3⟩:=Fin.ofOb q2
 have:=zcC rl' en
 subst this
 obtain ⟨hl,q4⟩:=Fin.guard q3
 refine ⟨a,ns,by rw [e'],znq hs,hl.2,fun p hp=> ?_⟩
 have hr2:za9 X.K ι1 (upd H1 p (zkK X.prog X.w p ns)) h1:=hr1.laid hp
 exact ⟨p,ns,rfl,.inl ⟨⟨hl.1,zaV⟩,fun l hl'=>zrJ hr2 (zc0.mpr rfl) (Fin.step (hr1.laidS hp) q4) hl'⟩⟩
end
noncomputable def tyD:D->M String
 | .non=>pure "NoneType"
 | .bl _=>pure "bool"
 | .int _=>pure "int"
 | .str _=>pure "str"
 | .tup _=>pure "tuple"
 | .lst _=>pure "list"
 | .dct=>pure "dict"
 | .cel n=>do let _<-zan n;pure "list"
 | _=>M.bad
noncomputable def zlh:List String:=["NoneType","bool","int","str","tuple","list","dict"]
noncomputable def isB (T t:String):Bool:=t==T || (t=="bool" && T=="int")
noncomputable def zhO (T:String) (d:D):M D:=do let t<-tyD d;pure (.bl (isB T t))
def ziZ (T:String):Prop:= ∀ (K:W.Frag), ∀ t∈zlh,W.kitOne K (.type t) (.type T)=some (isB T t)
noncomputable def ztk (t T:String):Option Bool:=if ((Value.type t)==(Value.type T))=true then some true else if W.kitMeta T=true then (fastBuiltinMro t).map (·.contains (Value.type T)) else none
theorem zfJ {T:String} (h:(zlh.all fun t=>ztk t T==some (isB T t))=true):ziZ T:=fun K t ht=>by
 have:=List.all_eq_true.mp h t ht
 have e:W.kitOne K (.type t) (.type T)=ztk t T:=rfl
 rw [e]
 exact beq_iff_eq.mp this
theorem zjv:ziZ "int":=zfJ (by decide +kernel)
theorem zin:ziZ "bool":=zfJ (by decide +kernel)
theorem zg9:ziZ "tuple":=zfJ (by decide +kernel)
section
variable {X:Cx} {E:XE} {α:Type}
theorem zow {K:W.Frag} {ι:Io} {H:Hp} {h:Hh} {d:D} {v:V} {f:String->M α} {P:α->Io->Hp->Prop} (hr:za9 K ι H h) (r:Rel K ι H d v) (q:Fin K E ι H ((do let t<-tyD d;f t) h) P):
  ∃ t,t∈zlh/\zh6 K H v (.type t)/\Fin K E ι H (f t h) P:=by
 cases d with
 | non=>simp only [Rel] at r;subst r;exact ⟨_,by decide,.non,q⟩
 | bl b=>simp only [Rel] at r;subst r;exact ⟨_,by decide,.bl b,q⟩
 | int b=>simp only [Rel] at r;subst r;exact ⟨_,by decide,.int b,q⟩
 | str b=>simp only [Rel] at r;subst r;exact ⟨_,by decide,.str b,q⟩
 | tup ds=>
  simp only [Rel] at r
  obtain ⟨a,vs,e,h1,h2⟩:=r
  subst e
  exact ⟨_,by decide,.tup h1.1,q⟩
 | lst ds=>
  simp only [Rel] at r
  obtain ⟨a,vs,e,h1,h2⟩:=r
  subst e
  exact ⟨_,by decide,.lst h1.1,q⟩
 | dct=>
  simp only [Rel] at r
  obtain ⟨a,e,h1,h2⟩:=r
  subst e
  exact ⟨_,by decide,.dK h1,q⟩
 | cel n=>
  have q':Fin K E ι H (M.bind (zan n) (fun _=>f "list") h) P:=by
   have e:(do let t<-tyD (.cel n);f t:M α)=(zan n>>=fun _=>f "list"):=by
    show ((zan n>>=fun _=>pure "list")>>=f)=_
    simp only [bind_assoc,pure_bind]
   rw [e] at q
   exact q
  unfold M.bind at q'
  cases z:zan n h with
  | bad=>rw [z] at q';exact qa0 q'
  | exc c h'=>unfold zan at z;split at z<;>cases z
  | ok ds h'=>
   rw [z] at q'
   obtain ⟨rfl,z2⟩:=zcx z
   obtain ⟨a,vs,e,hn,hH,rl⟩:=hr.read r z2
   subst e
   exact ⟨_,by decide,.lst hH,q'⟩
 | _=>exact qa0 q
theorem zml:zaM X (.builtin "isinstance") (fun xs H Q=> ∃ x t T b,xs=[x,.ty T]/\zh6 X.K H x t/\W.kitOne X.K t (.type T)=some b/\Q (.bl b) H):=by
 intro pins s σ H xs us Q I r h
 obtain ⟨x,t,T,b,rfl,ty,e,q⟩:=h
 cases r with
 | cons r1 r2=>
  cases r2 with
  | cons r3 r4=>
   cases r4
   cases r3
   exact zkM I r1 ty e fun tk=>⟨.bl b,H,I.tok tk,rfl,q⟩
theorem zqo {a:Expr} {x:Str} {T:String} {p1 p2 pos:Pos} {fa:Sd->M D} (hk:ziZ T) (hg:Gl X "isinstance") (hm:X.mg "isinstance"=none) (hgT:Gl X x) (hmT:X.mg x=none) (hvT:bootBuiltins x=some (.type T)) (ha:SE X E a fa)
  (hn:x≠"__name__":=by decide) (hd:(x==("__debug__":Str))=false:=by decide)
  (h1:starEach [a,.Name x p2] X.env=(false,eval a X.env)::starEach [.Name x p2] X.env:=by rfl) (h2:starEach [.Name x p2] X.env=[(false,eval (.Name x p2) X.env)]:=by rfl)
  (hpl:(backTo pos (starEach [.Name x p2] X.env)).any (·.1)=false:=by rfl):
  SE X E (.Call (.Name "isinstance" p1) [a,.Name x p2] [] pos) (fun sd=>do let d<-fa sd;zhO T d):=by
 refine PE.imp (zdS zml hg hm PyProof.Rows.boot_isinstance (zbt ha (zbt (zk0 (v:= .ty T) hgT hmT hvT rfl hn hd) zcV h2) h1) (he:=h1) (hpl:=hpl)) fun σ H Q ⟨ι,h,sd,L,hh,q⟩=>⟨ι,h,sd,L,hh,Fin.bind q fun d h1 ι1 H1 e1 s1 hr1 q1 v rv=> ?_⟩
 obtain ⟨t,ht,ty,q2⟩:=zow hr1 rv q1
 exact ⟨v,.type t,T,isB T t,rfl,ty,hk X.K t ht,Fin.out hr1 q2 _ (by simp [Rel])⟩
noncomputable def zpQ:D->D->M D
 | .bl a,.bl b=>pure (.bl (a != b))
 | _,_=>M.bad
noncomputable def zs8 (xs:List D) (lo hi:Option Int):List D:=(xs.drop (HT.sIx xs.length 0 lo)).take (HT.sIx xs.length xs.length hi - HT.sIx xs.length 0 lo)
noncomputable def dSl (d:D) (lo hi:Option Int):M D:=match d with
 | .tup ds=>pure (.tup (zs8 ds lo hi))
 | .lst ds=>pure (.lst (zs8 ds lo hi))
 | _=>M.bad
theorem PO.imp {e:Option Expr} {t t':TO} (h:PO X e t) (m: ∀ σ H Q,t' σ H Q->t σ H Q):PO X e t':=fun pins s σ H Q I q=>h pins s σ H Q I (m _ _ _ q)
noncomputable def zrX:Sd->M (Option Int):=fun _=>pure none
noncomputable def znX:D->M (Option Int)
 | .int i=>pure (some i)
 | _=>M.bad
noncomputable def zsW (f:Sd->M D):Sd->M (Option Int):=fun sd=>do let d<-f sd;znX d
noncomputable def cSl (f:Sd->M D) (lo hi:Sd->M (Option Int)):Sd->M D:=fun sd=>do let d<-f sd;let l<-lo sd;let u<-hi sd;dSl d l u
noncomputable def ztn:D->M D
 | .tup ds=>pure (.tup ds.reverse)
 | _=>M.bad
noncomputable def zeq (x y:D):M D:=match x,y with
 | .int i,.int j=>if (zcs i || zcs j)=true then pure (.int (i*j)) else M.bad
 | .tup xs,.int k=>if xs≠[]/\2<=k/\k<1000/\xs.length*k.toNat<=sizeLine then pure (.tup (List.replicate k.toNat xs).flatten) else M.bad
 | _,_=>M.bad
theorem zat.rep {K:W.Frag} {ι:Io} {H:Hp} {ds:List D} {vs:List V} (h:zat K ι H ds vs): ∀ n,zat K ι H (List.replicate n ds).flatten (List.replicate n vs).flatten
 | 0=>zat.nil
 | n+1=>by
  rw [List.replicate_succ,List.replicate_succ,List.flatten_cons,List.flatten_cons]
  exact zat.append h (zat.rep h n)
theorem za5:OpR X (binaryOp .Mult) (zdr X.K E zeq):=by
 refine OpR.imp (zqb.or znK) fun x y H Q ⟨ι,h,d1,d2,r1,r2,hr,q⟩=> ?_
 unfold zeq at q
 split at q
 ·simp only [Rel] at r1 r2
  obtain ⟨c,q⟩:=Fin.guard q
  refine .inl ⟨_,_,r1,r2,?_,Fin.out hr q _ (by simp [Rel])⟩
  rcases (Bool.or_eq_true _ _).mp c with z | z
  ·exact .inl (ze2 z)
  ·exact .inr (ze2 z)
 ·simp only [Rel] at r2
  obtain ⟨a,vs,e,k1,k2⟩:=zdt r1
  obtain ⟨⟨c1,c2,c3,c4⟩,q⟩:=Fin.guard q
  refine .inr ⟨a,_,vs,e,r2,k1,fun z=>c1 ?_,c2,c3,by rw [<- k2.length];exact c4,fun p hp=>zrC hr (k2.rep _) q hp⟩
  subst z
  exact List.eq_nil_of_length_eq_zero k2.length
 ·exact qa0 q
theorem ziW {pins:List (Addr×Obj)} {σ:L2.St} {H:Hp} {s:Shared} (I:Inv X pins σ H s):sysModules<s.heap.objs.size:=
 Nat.lt_trans (by decide) (show mainGlobals<s.heap.objs.size from (I.mod.glob.keeps I.bk).lt)
theorem zlH {pos:Pos}:PE X (.Dict [] [] pos) (fun _ H Q=> ∀ p,H p=none->Q (.ref p) (upd H p (.dK []))):=fun pins s σ H Q I h=>
 wpAny_Dict_empty ⟨.ref s.heap.objs.size,_,I.laid (a:=s.heap.objs.size) (o:= .dK []) (t':=s.toks) (fun _ _ q=>qag _ q) (qaV _)
   ⟨Nat.zero_le _,beq_eq_false_iff_ne.mpr (Ne.symm (qaR (ziW I))),[],.nil,Heap.DictOf.new s.heap⟩,rfl,h _ (I.hok.fresh (qaV _))⟩
mutual
noncomputable def pdH (h:Hh):D->Option PyData
 | .non=>some .none
 | .bl b=>some (.bool b)
 | .int i=>some (.int i)
 | .str x=>some (.str x)
 | .tup xs=>(zjp h xs).map .tuple
 | .lst xs=>(zjp h xs).map .list
 | .cel n=>match h[n]? with
  | some (.lst ds)=>(pdL ds).map .list
  | _=>none
 | _=>none
noncomputable def zjp (h:Hh):List D->Option (List PyData)
 | []=>some []
 | x::xs=>match pdH h x,zjp h xs with
  | some a,some r=>some (a::r)
  | _,_=>none
end
mutual
theorem zho {pins:List (Addr×Obj)} {σ:L2.St} {H:Hp} {s:Shared} {ι:Io} {h:Hh} (I:Inv X pins σ H s) (hr:za9 X.K ι H h): ∀ {d:D} {v:V} {u:Value} {p:PyData},Rel X.K ι H d v->zby v u->pdH h d=some p-> ∃ as,Reads s.heap u p as
 | .non,v,u,p,r,ru,e=>by simp only [Rel] at r;subst r;cases ru;simp only [pdH] at e;cases e;exact ⟨_,.none⟩
 | .bl b,v,u,p,r,ru,e=>by simp only [Rel] at r;subst r;cases ru;simp only [pdH] at e;cases e;exact ⟨_,.bool _⟩
 | .int i,v,u,p,r,ru,e=>by simp only [Rel] at r;subst r;obtain ⟨t,rfl⟩:=ru;simp only [pdH] at e;cases e;exact ⟨_,.int _ _⟩
 | .str i,v,u,p,r,ru,e=>by simp only [Rel] at r;subst r;obtain ⟨t,rfl⟩:=ru;simp only [pdH] at e;cases e;exact ⟨_,.str _ _⟩
 | .tup ds,v,u,p,r,ru,e=>by
  obtain ⟨a,vs,rfl,h1,h2⟩:=zdt r
  cases ru
  obtain ⟨its,rv,pl,_⟩:=I.tuple h1
  obtain ⟨o,ho,hc,n,hd⟩:=pl
  simp only [pdH] at e
  cases z:zjp h ds with
  | none=>rw [z] at e;cases e
  | some ps=>
   rw [z] at e;cases e
   obtain ⟨as,q⟩:=zht I hr h2 rv z
   exact ⟨_,.tuple ho hc hd (by simpa using q)⟩
 | .lst ds,v,u,p,r,ru,e=>by
  obtain ⟨a,vs,rfl,h1,h2⟩:=zdG r
  cases ru
  obtain ⟨its,rv,pl,_⟩:=I.list h1
  obtain ⟨o,ho,hc,n,hd⟩:=pl.isList
  simp only [pdH] at e
  cases z:zjp h ds with
  | none=>rw [z] at e;cases e
  | some ps=>
   rw [z] at e;cases e
   obtain ⟨as,q⟩:=zht I hr h2 rv z
   exact ⟨_,.list ho hc hd (by simpa using q)⟩
 | .cel m,v,u,p,r,ru,e=>by
  simp only [pdH] at e
  cases z0:h[m]? with
  | none=>rw [z0] at e;cases e
  | some c=>
   rw [z0] at e
   cases c with
   | dead=>cases e
   | dic _=>cases e
   | lst ds=>
    obtain ⟨a,vs,rfl,hn,hH,rl⟩:=hr.read r z0
    cases ru
    obtain ⟨its,rv,pl,_⟩:=I.list (SqL.of hH)
    obtain ⟨o,ho,hc,n,hd⟩:=pl.isList
    cases z:pdL ds with
    | none=>simp only [z] at e;cases e
    | some ps=>
     simp only [z] at e;cases e
     obtain ⟨as,q⟩:=zgT I rl rv z
     exact ⟨_,.list ho hc hd (by simpa using q)⟩
 | .scr ds,_,_,_,_,_,e=>by simp only [pdH] at e;cases e
 | .set xs,_,_,_,_,_,e=>by simp only [pdH] at e;cases e
 | .dct,_,_,_,_,_,e=>by simp only [pdH] at e;cases e
 | .fn _,_,_,_,_,_,e=>by simp only [pdH] at e;cases e
 | .exn _,_,_,_,_,_,e=>by simp only [pdH] at e;cases e
theorem zht {pins:List (Addr×Obj)} {σ:L2.St} {H:Hp} {s:Shared} {ι:Io} {h:Hh} (I:Inv X pins σ H s) (hr:za9 X.K ι H h): ∀ {ds:List D} {vs:List V} {us:List Value} {ps:List PyData},zat X.K ι H ds vs->za2 vs us->zjp h ds=some ps-> ∃ as,ReadsAll s.heap us ps as
 | [],vs,us,ps,r,ru,e=>by simp only [zat] at r;subst r;cases ru;simp only [zjp] at e;cases e;exact ⟨_,.nil⟩
 | d::ds,vs,us,ps,r,ru,e=>by
  simp only [zat] at r
  obtain ⟨v,vr,rfl,r1,r2⟩:=r
  cases ru with
  | cons ru1 ru2=>
   simp only [zjp] at e
   cases z:pdH h d with
   | none=>rw [z] at e;cases e
   | some a=>
    cases z2:zjp h ds with
    | none=>rw [z,z2] at e;cases e
    | some b=>
     rw [z,z2] at e
     cases e
     obtain ⟨as,q1⟩:=zho I hr r1 ru1 z
     obtain ⟨bs,q2⟩:=zht I hr r2 ru2 z2
     exact ⟨_,.cons q1 q2⟩
end
noncomputable def zqh (x y:D):M D:=fun h=>match pdH h x,pdH h y with
 | some a,some b=>if zfM a b=true then .ok (.bl (PyData.eqv a b)) h else .bad
 | _,_=> .bad
theorem zpS (hu:X.A.units+60<cLine):OpR X (compareOp .Eq) (zdr X.K E zqh):=by
 intro pins s σ H x y v u Q I rx ry ⟨ι,h,d1,d2,r1,r2,hr,q⟩
 unfold zqh at q
 cases e1:pdH h d1 with
 | none=>rw [e1] at q;exact qa0 q
 | some a=>
  cases e2:pdH h d2 with
  | none=>rw [e1,e2] at q;exact qa0 q
  | some b=>
   rw [e1,e2] at q
   dsimp only at q
   by_cases c:zfM a b=true
   ·rw [qa4 c] at q
    obtain ⟨c1,c2,c3⟩:=zfX c
    obtain ⟨as,ra⟩:=zho I hr r1 rx e1
    obtain ⟨bs,rb⟩:=zho I hr r2 ry e2
    exact SeqAt.compareEq_reads ra rb c1 c2 (by omega) ⟨.bl _,H,I,rfl,q ι H (zbJ.refl _ _) hr (.bl _) (by simp [Rel])⟩
   ·rw [qa5 c] at q
    exact qa0 q
end
noncomputable abbrev FE:=Sd->M D
noncomputable abbrev FT:=Sd->M Bool
noncomputable abbrev FA:=Sd->M (List D)
noncomputable abbrev FS:=Sd->M Out
noncomputable def cOp (F:D->D->M D) (a b:FE):FE:=fun sd=>do let x<-a sd;let y<-b sd;F x y
noncomputable def cUn (F:D->M D) (a:FE):FE:=fun sd=>do let x<-a sd;F x
noncomputable def zaF (F:List D->M D) (a:FA):FE:=fun sd=>do let ds<-a sd;F ds
noncomputable def zde (F:D->D->M D) (a b:FE):FT:=fun sd=>do let z<-(do let x<-a sd;let y<-b sd;F x y);zdk z
noncomputable def zju (a:FE):FT:=fun sd=>do let x<-a sd;zdk x
noncomputable def zi3 (t:FT):FT:=fun sd=>do let c<-t sd;pure (!c)
noncomputable def zqr (t u:FT):FT:=fun sd=>do let c<-t sd;if c=true then u sd else pure false
noncomputable def tOr (t u:FT):FT:=fun sd=>do let c<-t sd;if c=true then pure true else u sd
noncomputable def zpf (a b:FE):FE:=fun sd=>do let c<-(do let x<-a sd;zdk x);if c=true then b sd else pure (.bl false)
noncomputable def cOr (a b:FE):FE:=fun sd=>do let c<-(do let x<-a sd;zdk x);if c=true then pure (.bl true) else b sd
noncomputable def zrG (a:FE):FE:=fun sd=>do let c<-(do let x<-a sd;zdk x);pure (.bl (!c))
noncomputable def cIf (t:FT) (a b:FE):FE:=fun sd=>do let c<-t sd;if c=true then a sd else b sd
noncomputable def cK (d:D):FE:=fun _=>pure d
noncomputable def zav:FA:=fun _=>pure []
noncomputable def zac (a:FE) (r:FA):FA:=fun sd=>do let x<-a sd;let r<-r sd;pure (x::r)
noncomputable def zfc (fs:FA):FE:=fun sd=>do let ds<-fs sd;fits ds.length;pure (.tup ds)
noncomputable def zjs (fs:FA):FE:=fun sd=>do let ds<-fs sd;fits ds.length;pure (.lst ds)
noncomputable def ze3 (fs:FA):FE:=fun sd=>do let ds<-fs sd;fits ds.length;zdZ ds
noncomputable def zgq:FS:=fun sd=>pure (.nx sd)
noncomputable def zap (g g':FS):FS:=fun sd=>do let o<-g sd;andThen o g'
noncomputable def zbe (i:Nat) (f:FE):FS:=fun sd=>do let d<-f sd;pure (.nx (sd.set i (some d)))
noncomputable def zb8 (f:FE):FS:=fun sd=>do let d<-f sd;pure (.rt d)
noncomputable def sIf (t:FT) (g g':FS):FS:=fun sd=>do let c<-t sd;if c=true then g sd else g' sd
noncomputable def zgm (fi:FA) (g:D->Sd->M Sd) (gb:FS):FS:=fun sd=>do let ds<-fi sd;zaL (fun x sd=>do let sd1<-g x sd;gb sd1) ds sd
noncomputable def zmd (f:FE) (g:D->Sd->M Sd):FS:=fun sd=>do let d<-f sd;let sd'<-g d sd;pure (.nx sd')
noncomputable def zgS (f:FE):FS:=fun sd=>do let _<-f sd;pure (.nx sd)
noncomputable def iSq (f:FE):FA:=fun sd=>do let d<-f sd;zeA d
noncomputable def zjk (fs:FA):FA:=fun sd=>do let ds<-fs sd;zka ds
noncomputable def zlJ (fo fi:FE):D->Sd->M Sd:=fun d sd=>do let x<-fo sd;let y<-fi sd;zln x y d;pure sd
section
variable {X:Cx} {E:XE} {a b e c:Expr} {es:List Expr} {pos p p1 p2:Pos} {fa fb f:FE} {fs:FA} {x:Str}
theorem zab (i:Nat) (hN:X.N[i]? = some x:=by rfl) (hv:Vis X.env.scope x:=by first | exact Or.inl rfl | exact Or.inr (Or.inl rfl) | exact Or.inr (Or.inr rfl)) (hd:(x==("__debug__":Str))=false:=by decide) (hcd:(x==("__classdict__":Str))=false:=by decide):SE X E (.Name x pos) (zag i):=zpw i hN hv hd hcd
theorem zah {i:Int} {j:Nat}:SE X E (.Constant (.int i) j pos) (cK (.int i)):=zpp
theorem zpk {i:Bool} {j:Nat}:SE X E (.Constant (.bool i) j pos) (cK (.bl i)):=zsF
theorem zeH {j:Nat}:SE X E (.Constant .none j pos) (cK .non):=zpx
theorem zdm {i:Str} {j:Nat}:SE X E (.Constant (.str i) j pos) (cK (.str i)):=zrv
theorem znM {i:Int} (hm: ∃ t,X.mg x=some (.int i t)) (hg:Gl X x:=by rfl) (hd:(x==("__debug__":Str))=false:=by decide):SE X E (.Name x pos) (cK (.int i)):=by
 obtain ⟨t,hm⟩:=hm
 exact zmi hg hm hd
theorem zbm {op:Operator} {F:D->D->M D} (ho:OpR X (binaryOp op) (zdr X.K E F)) (ha:SE X E a fa) (hb:SE X E b fb):SE X E (.BinOp a op b pos) (cOp F fa fb):=zsb ho ha hb
theorem zjf {op:CmpOp} {F:D->D->M D} (ho:OpR X (compareOp op) (zdr X.K E F)) (ha:SE X E a fa) (hb:SE X E b fb) (hm:behindInMarks op b=false:=by rfl):SE X E (.Compare a [op] [b] pos) (cOp F fa fb):=zrk ho ha hb hm
theorem zaT {op:CmpOp} {F:D->D->M D} (ho:OpR X (compareOp op) (zdr X.K E F)) (ha:SE X E a fa) (hb:SE X E b fb) (hm:behindInMarks op b=false:=by rfl):ST X E (.Compare a [op] [b] pos) (zde F fa fb):=zps ho ha hb hm
theorem zbj (ha:SE X E a fa) (hb:SE X E b fb) (hs:zeN b:=by intro _ _;rfl):SE X E (.Subscript a b pos) (cOp dIx fa fb):=zq7 ztB ha hb hs
theorem zsa (ha:SE X E a fa):SE X E (.UnaryOp .USub a pos) (cUn zrH fa):=zrc ha
theorem zre (ha:SE X E a fa):SE X E (.UnaryOp .Not a pos) (zrG fa):=zpX ha
theorem zme {op:BoolOp} (h:SE X E a fa):SE X E (.BoolOp op [a] pos) fa:=zpI h
theorem zl6 {rest:List Expr} (ha:SE X E a fa) (hb:SE X E (.BoolOp .And (b::rest) pos) fb):SE X E (.BoolOp .And (a::b::rest) pos) (zpf fa fb):=zq0 ha hb
theorem zdo (h:SE X E e f) (he: ∀ whole,isTrue e X.env whole=(do let v<-whole;standAt e.pos;holding [v] (truthy v)):=by intro _;rfl):ST X E e (zju f):=zp9 h he
theorem zdP {t:FT} (ha:ST X E a t):ST X E (.UnaryOp .Not a pos) (zi3 t):=zqp ha
theorem zoQ {t:FT} (ha:ST X E a t):PW X (.BoolOp .And [a] pos) (zfG X.K E t):=zn1 ha
theorem zeZ {t:FT} (ha:ST X E a t):PW X (.BoolOp .Or [a] pos) (zfG X.K E t):=zqi ha
theorem zqO {rest:List Expr} {t u:FT} (ha:ST X E a t) (hb:PW X (.BoolOp .And (b::rest) pos) (zfG X.K E u)):PW X (.BoolOp .And (a::b::rest) pos) (zfG X.K E (zqr t u)):=zrj ha hb
theorem zeK {rest:List Expr} {t u:FT} (ha:ST X E a t) (hb:PW X (.BoolOp .Or (b::rest) pos) (zfG X.K E u)):PW X (.BoolOp .Or (a::b::rest) pos) (zfG X.K E (tOr t u)):=zsc ha hb
theorem zc4 {op:BoolOp} {vs:List Expr} {t:FT} (h:PW X (.BoolOp op vs pos) (zfG X.K E t)):ST X E (.BoolOp op vs pos) t:=zou h
theorem zpZ {t:FT} (hc:ST X E c t) (ha:SE X E a fa) (hb:SE X E b fb):SE X E (.IfExp c a b pos) (cIf t fa fb):=zl2 hc ha hb
theorem zkz {env:Env} (h: ∀ v p,e≠ .Starred v p):starEach (e::es) env=(false,eval e env)::starEach es env:=by
 cases e<;>first | rfl | exact absurd rfl (h _ _)
theorem zad:SA X E [] zav:=zp3
theorem zaa (ha:SE X E e fa) (hr:SA X E es fs) (hs:starEach (e::es) X.env=(false,eval e X.env)::starEach es X.env:=by exact zkz (fun _ _ z=>nomatch z)):SA X E (e::es) (zac fa fs):=zo9 ha hr hs
theorem zcu {k} (h:SA X E es fs):SE X E (.Tuple es k pos) (zfc fs):=zqe h
theorem zfl (h:SA X E es fs):SE X E (.List es pos) (zjs fs):=zru h
theorem zd9 (h:SA X E es fs):SE X E (.List es pos) (ze3 fs):=znS h
theorem zaR {id:String} {F:List D->M D} (hc:zaM X (.builtin id) (zhs X.K E F)) (hv:bootBuiltins x=some (.builtin id)) (hm:X.mg x=none) (ha:SA X E (e::es) fs) (hg:Gl X x:=by rfl) (hn:x≠"__name__":=by decide) (hdb:(x==("__debug__":Str))=false:=by decide)
  (he:starEach (e::es) X.env=(false,eval e X.env)::starEach es X.env:=by rfl) (hpl:(backTo pos (starEach es X.env)).any (·.1)=false:=by rfl):SE X E (.Call (.Name x p) (e::es) [] pos) (zaF F fs):=zmA hc hg hm hv ha hn hdb he hpl
theorem zbd {T:String} {F:List D->M D} (hc:zaM X (.type T) (zhs X.K E F)) (hv:bootBuiltins x=some (.type T)) (hm:X.mg x=none) (ha:SA X E (e::es) fs) (hg:Gl X x:=by rfl) (hn:x≠"__name__":=by decide) (hdb:(x==("__debug__":Str))=false:=by decide)
  (he:starEach (e::es) X.env=(false,eval e X.env)::starEach es X.env:=by rfl) (hpl:(backTo pos (starEach es X.env)).any (·.1)=false:=by rfl):SE X E (.Call (.Name x p) (e::es) [] pos) (zaF F fs):=zks hc hg hm hv ha hn hdb he hpl
theorem zjd {T:String} (hk:ziZ T) (hvT:bootBuiltins x=some (.type T)) (hm:X.mg "isinstance"=none) (hmT:X.mg x=none) (ha:SE X E a fa) (hg:Gl X "isinstance":=by rfl) (hgT:Gl X x:=by rfl)
  (hn:x≠"__name__":=by decide) (hd:(x==("__debug__":Str))=false:=by decide)
  (h1:starEach [a,.Name x p2] X.env=(false,eval a X.env)::starEach [.Name x p2] X.env:=by rfl) (h2:starEach [.Name x p2] X.env=[(false,eval (.Name x p2) X.env)]:=by rfl)
  (hpl:(backTo pos (starEach [.Name x p2] X.env)).any (·.1)=false:=by rfl):SE X E (.Call (.Name "isinstance" p1) [a,.Name x p2] [] pos) (cUn (zhO T) fa):=zqo hk hg hm hgT hmT hvT ha hn hd h1 h2 hpl
theorem zgk {pos2:Pos} (hc:X.calm=true) (hm1:X.mg "sorted"=none) (hm2:X.mg "set"=none) (he:SE X E e f) (hg1:Gl X "sorted":=by rfl) (hg2:Gl X "set":=by rfl)
  (h1:starEach [.Call (.Name "set" p2) [e] [] pos2] X.env=[(false,eval (.Call (.Name "set" p2) [e] [] pos2) X.env)]:=by rfl) (h2:starEach [e] X.env=[(false,eval e X.env)]:=by rfl):
  SE X E (.Call (.Name "sorted" p1) [.Call (.Name "set" p2) [e] [] pos2] [] pos) (cUn zbP f):=zjg hc hg1 hm1 hg2 hm2 he h1 h2
theorem zar {k:Nat} {g:Addr} {fd:FuncData} {ps:List Str} {n:Nat} {F:List D->M D} (G:zbw X.prog X.w X.K X.mg X.base CX0 k g fd ps (zb6 X.K n F)) (hr:zds k X.A) (hm:X.mg x=some (.ref g)) (hk:W.keepIn X.K (.ref g)=true) (hb:zaH X.K fd ps [])
  (ha:SA X E0x (e::es) fs) (hg:Gl X x:=by rfl) (hdb:(x==("__debug__":Str))=false:=by decide) (he:starEach (e::es) X.env=(false,eval e X.env)::starEach es X.env:=by rfl) (hpl:(backTo pos (starEach es X.env)).any (·.1)=false:=by rfl):
  SE X E0x (.Call (.Name x p) (e::es) [] pos) (zaF (zau n F) fs):=zo5 G hr hg hm hk hb ha hdb he hpl
theorem zbZ:SSs X E [] zgq:=zpm
theorem zak {st:Stmt} {g:FS} (h1:SS X E st g):SSs X E [st] g:=zqy h1
theorem zaf {st:Stmt} {rest:List Stmt} {g g':FS} (h1:SS X E st g) (h2:SSs X E rest g'):SSs X E (st::rest) (zap g g'):=zod h1 h2
theorem zaZ (he:SE X E e f):SS X E (.Return (some e) pos) (zb8 f):=zs4 he
theorem zhQ {ys ns:List Stmt} {t:FT} {g g':FS} (hc:ST X E c t) (ha:SSs X E ys g) (hb:SSs X E ns g'):SS X E (.If c ys ns pos) (sIf t g g'):=zto hc ha hb
theorem zfs (he:SE X E e f) (hs:swapsWith e none pos.line X.env=pure false:=by rfl):SS X E (.Expr e pos) (zgS f):=zpv he hs
theorem zaA (i:Nat) (hN:X.N.Nodup) (he:SE X E e f) (hi:X.N[i]? = some x:=by rfl) (hx:Loc X.env.scope x:=by first | exact Or.inl rfl | exact Or.inr rfl) (hf:X.fn x=true\/X.env.scope.names.lookup x=some .local:=by first | exact Or.inl rfl | exact Or.inr rfl)
  (hs:swapsWith e (some (.Name x p)) pos.line X.env=pure false:=by rfl):SS X E (.Assign [.Name x p] e pos) (zbe i f):=zsB i hN hi hx hf he hs
theorem zhS {tg:Expr} {g:D->Sd->M Sd} (he:SE X E e f) (hg:SG X E tg g) (hs:swapsWithSole [tg] e pos.line X.env=pure false:=by rfl) (hw:swappedStores [tg] e X.env=pure none:=by rfl)
  (h1:(assignEach [tg] X.env).map (·.2)=[assign tg X.env]:=by rfl):SS X E (.Assign [tg] e pos) (zmd f g):=zso he hg hs hw h1
theorem zam (i:Nat) (hN:X.N.Nodup) (hi:X.N[i]? = some x:=by rfl) (hx:Loc X.env.scope x:=by first | exact Or.inl rfl | exact Or.inr rfl) (hf:X.fn x=true\/X.env.scope.names.lookup x=some .local:=by first | exact Or.inl rfl | exact Or.inr rfl):SG X E (.Name x pos) (zaD i):=znB i hN hi hx hf
theorem zcT:SGs X E [] zbR:=zo4
theorem zaS {g:D->Sd->M Sd} {gs:List D->Sd->M Sd} (h1:SG X E e g) (h2:SGs X E es gs) (hs:(assignEach (e::es) X.env).map (·.2)=assign e X.env::(assignEach es X.env).map (·.2):=by rfl):SGs X E (e::es) (zaw g gs):=zlF h1 h2 hs
theorem zed {k n:Nat} {gs:List D->Sd->M Sd} (hc:X.calm=true) (h:SGs X E es gs) (hn:(assignEach es X.env).length=n:=by rfl) (hst:(assignEach es X.env).findIdx? (·.1)=none:=by rfl):SG X E (.Tuple es k pos) (zbO n gs):=zqm hc h hn hst
theorem zm8 (ho:SE X E a fa) (hi:SE X E b fb) (ha: ∀ v,assign (.Subscript a b pos) X.env v=(do
      let ov<-holding [v] (eval a X.env)
      let iv<-holding [v,ov] (eval b X.env)
      standAt pos
      holding [v,ov,iv] (setItem ov iv v)
      release [v,ov,iv] []):=by intro _;rfl):SG X E (.Subscript a b pos) (zlJ fa fb):=zqW fun hs=>zm4 ho hi hs ha
theorem zb7 {tg:Expr} (he:SE X E e f):SI X E tg e (iSq f):=zpJ he
theorem zf2 {tg:Expr} (hm:X.mg "range"=none) (ha:SA X E [a] fs) (hg:Gl X "range":=by rfl) (hs:starEach [a] X.env=[(false,eval a X.env)]:=by rfl):SI X E tg (.Call (.Name "range" p) [a] [] pos) (zjk fs):=zn9 hg hm ha hs
theorem zdE {tg iter:Expr} {body:List Stmt} {fi:FA} {g:D->Sd->M Sd} {gb:FS} (hc:X.calm=true) (hp:PassesOwn (model X.prog X.w) X.A X.env X.xe) (hi:SI X E tg iter fi) (hg:SG X E tg g) (hb:SSs X E body gb)
  (hs: ∀ x,foldedSetIterable iter X.env x=pure x:=by intro _;rfl):SS X E (.For tg iter body [] pos) (zgm fi g gb):=zs0 hc hp hi hg hb hs
theorem zcB:SCs X E [] (fun _=>pure true):=zqV
theorem zeX {t:FT} (h:ST X E c t):SCs X E [c] t:=zpY h
theorem zbF {scope:Scope} {N:List Str} {src:List (Option Nat)} {tg iter elt:Expr} {ifs:List Expr} {fi:FA} {g:D->Sd->M Sd} {tc:FT} {te:FE} (hc:X.calm=true) (B:BOk X scope N src) (hk:zaQ g src) (hi:SI X E tg iter fi)
  (hg: ∀ s H fp,SG (cxB X scope N s H fp) E tg g) (ht: ∀ s H fp,SCs (cxB X scope N s H fp) E ifs tc) (he: ∀ s H fp,SE (cxB X scope N s H fp) E elt te)
  (hs: ∀ x,foldedSetIterable iter X.env x=pure x:=by intro _;rfl):SE X E (.ListComp elt [⟨tg,iter,ifs,0⟩] scope pos) (zaI fi g tc te src):=zjY B hk hi hg ht he hs
theorem zg3 {scope:Scope} {N:List Str} {src:List (Option Nat)} {tg iter elt:Expr} {ifs:List Expr} {fi:FA} {g:D->Sd->M Sd} {tc:FT} {te:FE} (i:Nat) {y:Str} {py spos:Pos} (hc:X.calm=true) (hN:X.N.Nodup) (B:BOk X scope N src) (hk:zaQ g src) (hi:SI X E tg iter fi)
  (hg: ∀ s H fp,SG (cxB X scope N s H fp) E tg g) (ht: ∀ s H fp,SCs (cxB X scope N s H fp) E ifs tc) (he: ∀ s H fp,SE (cxB X scope N s H fp) E elt te)
  (hy:X.N[i]? = some y:=by rfl) (hx:Loc X.env.scope y:=by first | exact Or.inl rfl | exact Or.inr rfl) (hf:X.fn y=true\/X.env.scope.names.lookup y=some .local:=by first | exact Or.inl rfl | exact Or.inr rfl) (hsw:swapsWith (.ListComp elt [⟨tg,iter,ifs,0⟩] scope pos) (some (.Name y py)) spos.line X.env=pure true:=by rfl)
  (hs: ∀ x,foldedSetIterable iter X.env x=pure x:=by intro _;rfl):SS X E (.Assign [.Name y py] (.ListComp elt [⟨tg,iter,ifs,0⟩] scope pos) spos) (zbe i (zaI fi g tc te src)):=zlp i B hk hi hg ht he hN hy hx hf hsw hs
end
theorem za9.empty {K:W.Frag} {H:Hp}:za9 K ⟨[],[]⟩ H []:=⟨rfl,fun m n a h=>by simp at h,fun n a c h=>by simp at h,fun n h=>by simp at h,fun a h=>by cases h⟩
theorem zsq {K:W.Frag} {F:List D->M D} {H:Hp} {a:Addr} {ns:List Int} (hS:SqL K H a (ns.map V.int)) (hm: ∃ h',F [.scr (ns.map D.int)] []= .ok (.bl true) h'):zb6 K 1 F [.ref a] H (fun v _=>v= .bl true) fun _ _ _=>False:=by
 obtain ⟨h',e⟩:=hm
 refine ⟨rfl,⟨[],[]⟩,[],[.scr (ns.map D.int)],zat.cons ?_ zat.nil,za9.empty,?_⟩
 ·simp only [Rel]
  refine ⟨a,ns.map V.int,rfl,?_,zc0.mpr rfl⟩
  rcases hS with h | h
  ·exact .inl ⟨h,fun z=>by rcases z with z | z<;>cases z⟩
  ·exact .inr (.inr h)
 ·rw [e]
  intro ι1 H1 s hr v rv
  simpa [Rel] using rv
section
variable {sd:Sd} {a b:FE} {fs:FA} {t u:FT} {g g':FS} {F:D->D->M D}
@[simp] theorem zch:cOp F a b sd=(do let x<-a sd;let y<-b sd;F x y):=rfl
@[simp] theorem zjZ {F:D->M D}:cUn F a sd=(do let x<-a sd;F x):=rfl
@[simp] theorem zbx {F:List D->M D}:zaF F fs sd=(do let ds<-fs sd;F ds):=rfl
@[simp] theorem zeQ:zde F a b sd=(do let z<-(do let x<-a sd;let y<-b sd;F x y);zdk z):=rfl
@[simp] theorem zq2:zju a sd=(do let x<-a sd;zdk x):=rfl
@[simp] theorem zrt:zi3 t sd=(do let c<-t sd;pure (!c)):=rfl
@[simp] theorem zqT:zqr t u sd=(do let c<-t sd;if c=true then u sd else pure false):=rfl
@[simp] theorem zsG:tOr t u sd=(do let c<-t sd;if c=true then pure true else u sd):=rfl
@[simp] theorem zjG:zpf a b sd=(do let c<-(do let x<-a sd;zdk x);if c=true then b sd else pure (.bl false)):=rfl
@[simp] theorem zsj:cOr a b sd=(do let c<-(do let x<-a sd;zdk x);if c=true then pure (.bl true) else b sd):=rfl
@[simp] theorem zjH:zrG a sd=(do let c<-(do let x<-a sd;zdk x);pure (.bl (!c))):=rfl
@[simp] theorem zs6:cIf t a b sd=(do let c<-t sd;if c=true then a sd else b sd):=rfl
@[simp] theorem zfd {d:D}:cK d sd=pure d:=rfl
@[simp] theorem za7:zav sd=pure []:=rfl
@[simp] theorem zaP:zac a fs sd=(do let x<-a sd;let r<-fs sd;pure (x::r)):=rfl
@[simp] theorem zhm:zfc fs sd=(do let ds<-fs sd;fits ds.length;pure (.tup ds)):=rfl
@[simp] theorem zh8:zjs fs sd=(do let ds<-fs sd;fits ds.length;pure (.lst ds)):=rfl
@[simp] theorem zga:ze3 fs sd=(do let ds<-fs sd;fits ds.length;zdZ ds):=rfl
@[simp] theorem zhi:zgq sd=pure (.nx sd):=rfl
@[simp] theorem za1:zap g g' sd=(do let o<-g sd;andThen o g'):=rfl
@[simp] theorem zcd {i:Nat}:zbe i a sd=(do let d<-a sd;pure (.nx (sd.set i (some d)))):=rfl
@[simp] theorem zcU:zb8 a sd=(do let d<-a sd;pure (.rt d)):=rfl
@[simp] theorem zkn:sIf t g g' sd=(do let c<-t sd;if c=true then g sd else g' sd):=rfl
@[simp] theorem zfo {fi:FA} {gt:D->Sd->M Sd}:zgm fi gt g sd=(do let ds<-fi sd;zaL (fun x sd=>do let sd1<-gt x sd;g sd1) ds sd):=rfl
@[simp] theorem ziG {gt:D->Sd->M Sd}:zmd a gt sd=(do let d<-a sd;let sd'<-gt d sd;pure (.nx sd')):=rfl
@[simp] theorem zoR:zgS a sd=(do let _<-a sd;pure (.nx sd)):=rfl
@[simp] theorem zox:iSq a sd=(do let d<-a sd;zeA d):=rfl
@[simp] theorem zgV:zjk fs sd=(do let ds<-fs sd;zka ds):=rfl
@[simp] theorem zkJ {d:D}:zlJ a b d sd=(do let x<-a sd;let y<-b sd;zln x y d;pure sd):=rfl
@[simp] theorem zcN {i:Nat} {d:D}:zaD i d sd=pure (sd.set i (some d)):=rfl
@[simp] theorem zfk:andThen (.nx sd) g=g sd:=rfl
@[simp] theorem zrM {d:D}:andThen (.rt d) g=pure (.rt d):=rfl
@[simp] theorem ztR:andThen (.bk sd) g=pure (.bk sd):=rfl
@[simp] theorem ztN:andThen (.ct sd) g=pure (.ct sd):=rfl
@[simp] theorem zs5:zcO (.nx sd)=pure .non:=rfl
@[simp] theorem zfZ {d:D}:zcO (.rt d)=pure d:=rfl
@[simp] theorem zdn {c:Bool}:zdk (.bl c)=pure c:=rfl
@[simp] theorem zsk {lo hi:Sd->M (Option Int)}:cSl a lo hi sd=(do let d<-a sd;let l<-lo sd;let u<-hi sd;dSl d l u):=rfl
@[simp] theorem znr:zrX sd=pure none:=rfl
@[simp] theorem zoo:zsW a sd=(do let d<-a sd;znX d):=rfl
@[simp] theorem zrd {i:Int}:znX (.int i)=pure (some i):=rfl
@[simp] theorem zrY {ds:List D} {lo hi:Option Int}:dSl (.tup ds) lo hi=pure (.tup (zs8 ds lo hi)):=rfl
@[simp] theorem zsm {ds:List D}:ztn (.tup ds)=pure (.tup ds.reverse):=rfl
@[simp] theorem zst {i:Int}:zrH (.int i)=pure (.int (-i)):=rfl
@[simp] theorem zdp {i j:Int}:zdJ (.int i) (.int j)=pure (.int (i+j)):=rfl
@[simp] theorem zmJ {xs ys:List D}:zdJ (.tup xs) (.tup ys)=(do fits (xs.length+ys.length);pure (.tup (xs++ys))):=rfl
@[simp] theorem zm7 {xs ys:List D}:zdJ (.lst xs) (.lst ys)=(do fits (xs.length+ys.length);pure (.lst (xs++ys))):=rfl
@[simp] theorem zoL {i j:Int}:zrL (.int i) (.int j)=pure (.int (i - j)):=rfl
@[simp] theorem zsg {i j:Int}:zsS (.int i) (.int j)=pure (.int (Builtin.bitAnd i j)):=rfl
@[simp] theorem zpc {i j:Int}:dLt (.int i) (.int j)=pure (.bl (decide (i<j))):=rfl
@[simp] theorem ztP {i j:Int}:dLe (.int i) (.int j)=pure (.bl (decide (i<=j))):=rfl
@[simp] theorem ztl {i j:Int}:dGt (.int i) (.int j)=pure (.bl (decide (j<i))):=rfl
@[simp] theorem ztQ {i j:Int}:dGe (.int i) (.int j)=pure (.bl (decide (j<=i))):=rfl
@[simp] theorem zsd {i j:Bool}:zpQ (.bl i) (.bl j)=pure (.bl (i != j)):=rfl
@[simp] theorem zpP {ds:List D}:zgh [.tup ds]=pure (.int ds.length):=rfl
@[simp] theorem zm0 {ds:List D}:zgh [.lst ds]=pure (.int ds.length):=rfl
@[simp] theorem zm2 {ds:List D}:zgh [.scr ds]=pure (.int ds.length):=rfl
@[simp] theorem zrs {ds:List D}:zb2 [.tup ds]=pure (.tup ds):=rfl
@[simp] theorem zgD {ds:List D}:zb2 [.lst ds]=pure (.tup ds):=rfl
@[simp] theorem zq1 {ds:List D}:zsX [.tup ds]=pure (.lst ds):=rfl
@[simp] theorem zsO {ds:List D}:zeA (.tup ds)=pure ds:=rfl
@[simp] theorem zot {ds:List D}:zeA (.lst ds)=pure ds:=rfl
@[simp] theorem znv {F:List D->M D} {x:D}:zau 1 F [x]=F [x]:=rfl
@[simp] theorem zbA {F:List D->M D} {x y:D}:zau 2 F [x,y]=F [x,y]:=rfl
@[simp] theorem zoh {F:List D->M D} {x y z:D}:zau 3 F [x,y,z]=F [x,y,z]:=rfl
@[simp] theorem zbS {body:D->Sd->M Out}:zaL body [] sd=pure (.nx sd):=rfl
theorem zbr {body:D->Sd->M Out} {x:D} {r:List D}:zaL body (x::r) sd=(do let o<-body x sd;match o with | .nx sd'=>zaL body r sd' | .ct sd'=>zaL body r sd' | .bk sd'=>pure (.nx sd') | .rt d=>pure (.rt d)):=rfl
@[simp] theorem zkl {gs:List D->Sd->M Sd} {x y:D}:zbO 2 gs (.tup [x,y]) sd=gs [x,y] sd:=rfl
@[simp] theorem zk2:zbR [] sd=pure sd:=rfl
@[simp] theorem zh2 {gt:D->Sd->M Sd} {gs:List D->Sd->M Sd} {x:D} {r:List D}:zaw gt gs (x::r) sd=(do let sd1<-gt x sd;gs r sd1):=rfl
@[simp] theorem zmV {n:Nat} {k:Int} {d:D}:zln (.cel n) (.int k) d=(do let ds<-zan n;let j<-ofO (ixN ds.length k);zbz n (ds.set j d)):=rfl
@[simp] theorem zss {ds:List D} {i:Int}:dIx (.tup ds) (.int i)=ofO (atI ds i):=rfl
@[simp] theorem zlU {ds:List D} {i:Int}:dIx (.lst ds) (.int i)=ofO (atI ds i):=rfl
@[simp] theorem zrR {ds:List D} {i:Int}:dIx (.scr ds) (.int i)=ofO (atI ds i):=rfl
@[simp] theorem zlX {n:Nat} {i:Int}:dIx (.cel n) (.int i)=(do let ds<-zan n;ofO (atI ds i)):=rfl
@[simp] theorem zfg {α:Type} {x:α}:ofO (some x)=pure x:=rfl
@[simp] theorem zkQ {x:D} {r:List D}:atI (x::r) 0=some x:=by unfold atI ixN;simp
@[simp] theorem zqz {x y:D} {r:List D}:atI (x::y::r) 1=some y:=by
 have:=zfC (xs:=x::y::r) (j:=1) (v:=y) rfl
 simpa using this
end
theorem zay {n:Nat} (h:n<=1000):fits n=pure ():=by
 unfold fits
 rw [qa4 (qaS h (by decide))]
theorem zh7 {i j:Int} (h:(zcs i || zcs j)=true):zeq (.int i) (.int j)=pure (.int (i*j)):=by
 show (if (zcs i || zcs j)=true then _ else _)=_
 rw [qa4 h]
theorem ziP {i:Int} (h: -1000000000000000<i) (h':i<1000000000000000):zcs i=true:=by unfold zcs;simp;omega
theorem zd8 {i j:Int} (h: -1000000000000000<i) (h':i<1000000000000000):zeq (.int i) (.int j)=pure (.int (i*j)):=zh7 (by rw [ziP h h'];rfl)
theorem zc8 {i j:Int} (h: -1000000000000000<j) (h':j<1000000000000000):zeq (.int i) (.int j)=pure (.int (i*j)):=zh7 (by rw [ziP h h'];simp)
theorem zdv {i j:Int} (h:0<j):zlV (.int i) (.int j)=pure (.int (i % j)):=by
 show (if (decide (0<j))=true then _ else _)=_
 rw [qa4 (by simpa using h)]
theorem zf9 {i j:Int} (h:0<j) (h':j<2^64):zkC (.int i) (.int j)=pure (.int (i / j)):=by
 show (if (decide (0<j) && decide (j<2^64))=true then _ else _)=_
 rw [qa4 (by rw [qaG];exact ⟨by simpa using h,by simpa using h'⟩)]
theorem zrN {i j:Int}:dEq (.int i) (.int j)=pure (.bl (i==j)):=by
 unfold dEq zjt
 simp only [pd]
 rw [qa4 (show zfM (.int i) (.int j)=true from rfl)]
 rfl
theorem zti {i j:Int}:dNe (.int i) (.int j)=pure (.bl (!(i==j))):=by
 unfold dNe zjt
 simp only [pd]
 rw [qa4 (show zfM (.int i) (.int j)=true from rfl)]
 rfl
def wp {α:Type} (m:M α) (h:Hh) (P:α->Hh->Prop):Prop:= ∃ a h',m h= .ok a h'/\P a h'
section
variable {α β:Type} {h:Hh} {P P':α->Hh->Prop}
theorem zai {a:α}:wp (pure a:M α) h P↔P a h:=⟨fun ⟨b,h',e,q⟩=>by cases (show R.ok a h=R.ok b h' from e);exact q,fun q=>⟨a,h,rfl,q⟩⟩
theorem zaj {m:M β} {f:β->M α}:wp (m>>=f) h P↔wp m h fun b h'=>wp (f b) h' P:=by
 constructor
 ·rintro ⟨a,h',e,q⟩
  have e:M.bind m f h= .ok a h':=e
  unfold M.bind at e
  cases z:m h with
  | ok b h1=>rw [z] at e;exact ⟨b,h1,z,a,h',e,q⟩
  | exc c h1=>rw [z] at e;cases e
  | bad=>rw [z] at e;cases e
 ·rintro ⟨b,h1,e,a,h',e2,q⟩
  refine ⟨a,h',?_,q⟩
  show M.bind m f h=_
  unfold M.bind
  rw [e]
  exact e2
theorem zhv {m:M α} (q:wp m h P) (k: ∀ a h',P a h'->P' a h'):wp m h P':=by
 obtain ⟨a,h',e,q⟩:=q
 exact ⟨a,h',e,k _ _ q⟩
theorem zbN {n:Nat} {ds:List D} {P:List D->Hh->Prop} (e:h[n]? = some (.lst ds)):wp (zan n) h P↔P ds h:=by
 unfold wp zan
 rw [e]
 exact ⟨fun ⟨b,h',e,q⟩=>by cases e;exact q,fun q=>⟨_,_,rfl,q⟩⟩
theorem zfa {n:Nat} {ds:List D} {P:Unit->Hh->Prop}:wp (zbz n ds) h P↔P () (h.set n (.lst ds)):=⟨fun ⟨b,h',e,q⟩=>by cases (show R.ok () (h.set n (.lst ds))=R.ok b h' from e);exact q,fun q=>⟨_,_,rfl,q⟩⟩
theorem zgo {ds:List D} {P:D->Hh->Prop}:wp (zdZ ds) h P↔P (.cel h.length) (h++[.lst ds]):=⟨fun ⟨b,h',e,q⟩=>by cases (show R.ok (D.cel h.length) (h++[C.lst ds])=R.ok b h' from e);exact q,fun q=>⟨_,_,rfl,q⟩⟩
end
theorem zdX {f:D->M (Option D)} {k:D->Option D}: ∀ {ds:List D},(∀ x∈ds,f x=pure (k x))->zbY f ds=pure (ds.filterMap k)
 | [],_=>rfl
 | x::r,hf=>by
  rw [zbY,hf x qau,zdX fun y hy=>hf y (qan _ hy)]
  simp only [pure_bind]
  cases e:k x<;>simp [qat,e]
theorem zct {fi:FA} {g:D->Sd->M Sd} {tc:FT} {te:FE} {src:List (Option Nat)} {sd:Sd} {ds:List D} {k:D->Option D} (hi:fi sd=pure ds) (hl:ds.length<=1000) (hf: ∀ x∈ds,zbl g tc te (zas src sd) x=pure (k x)):zaI fi g tc te src sd=pure (.lst (ds.filterMap k)):=by
 unfold zaI
 rw [hi]
 simp only [pure_bind]
 rw [zay hl]
 simp only [pure_bind]
 rw [zdX hf]
 simp only [pure_bind]
theorem zj9 {fi:FA} {g:D->Sd->M Sd} {tc:FT} {te:FE} {src:List (Option Nat)} {sd:Sd} {ds:List D} {k:D->D} (hi:fi sd=pure ds) (hl:ds.length<=1000) (hf: ∀ x∈ds,zbl g tc te (zas src sd) x=pure (some (k x))):zaI fi g tc te src sd=pure (.lst (ds.map k)):=by
 rw [zct (k:=fun x=>some (k x)) hi hl hf]
 simp
theorem zh4: ∀ bs:List Bool,zl0 (bs.map D.bl)=some bs
 | []=>rfl
 | b::r=>by rw [qaM,zl0,zh4 r];rfl
theorem zbf: ∀ bs:List Int,zcP (bs.map D.int)=some bs
 | []=>rfl
 | b::r=>by rw [qaM,zcP,zbf r];rfl
theorem znY (bs:List Bool):zsR [.lst (bs.map D.bl)]=pure (.bl (bs.all id)):=by
 show (do let bs<-ofO (zl0 (bs.map D.bl));pure (.bl (bs.all id)):M D)=_
 rw [zh4]
 rfl
theorem zld {d:D} {xs:List Int} (e:zlK d=pure (xs.map D.int)) (h:(xs.foldl step_dedup []).length<64) (h2:xs.length<4000):zbP d=pure (.lst ((zei xs).map D.int)):=by
 unfold zbP
 rw [e]
 show (do let ns<-ofO (zcP (xs.map D.int));if (ns.foldl step_dedup []).length<64/\ns.length<4000 then pure (.lst ((zei ns).map D.int)) else M.bad:M D)=_
 rw [zbf]
 show (if (xs.foldl step_dedup []).length<64/\xs.length<4000 then (pure (.lst ((zei xs).map D.int)):M D) else M.bad)=_
 rw [qa4 ⟨h,h2⟩]
theorem zgx {xs:List Int} (h:xs.length<64):zbP (.lst (xs.map D.int))=pure (.lst ((zei xs).map D.int)):=zld rfl (Nat.lt_of_le_of_lt (zki xs) h) (by omega)
theorem zi0 {xs:List Int} (h:xs.length<64):ze0 [.tup (xs.map D.int)]=pure (.lst ((zbD xs).map D.int)):=by
 show (do let ns<-ofO (zcP (xs.map D.int));if ns.length<64 then pure (.lst ((zbD ns).map D.int)) else M.bad:M D)=_
 rw [zbf]
 show (if xs.length<64 then (pure (.lst ((zbD xs).map D.int)):M D) else M.bad)=_
 rw [qa4 h]
noncomputable def kn:D->Bool
 | .non | .bl _ | .int _ | .str _ | .tup _ | .lst _ | .dct=>true
 | _=>false
noncomputable def isT:D->Bool
 | .tup _=>true
 | _=>false
noncomputable def isI:D->Bool
 | .int _=>true
 | _=>false
theorem zm5 {d:D} (k:kn d=true):zhO "tuple" d=pure (.bl (isT d)):=by
 cases d<;>simp [kn] at k<;>simp [zhO,tyD,isB,isT]
theorem zkF {d:D} (k:kn d=true):zhO "int" d=pure (.bl (isI d || (match d with | .bl _=>true | _=>false))):=by
 cases d<;>simp [kn] at k<;>simp [zhO,tyD,isB,isI]
theorem zna {d:D} (k:kn d=true):zhO "bool" d=pure (.bl (match d with | .bl _=>true | _=>false)):=by
 cases d<;>simp [kn] at k<;>simp [zhO,tyD,isB,isI]
mutual
noncomputable def zkr:D->Bool
 | .non | .bl _ | .int _=>true
 | .str x=>PyData.strOk x
 | .tup ds=>decide (ds.length<64) && zhB ds
 | .lst ds=>decide (ds.length<64) && zhB ds
 | _=>false
noncomputable def zhB:List D->Bool
 | []=>true
 | d::r=>zkr d && zhB r
end
mutual
theorem znO: ∀ {d:D},zkr d=true-> ∃ p,pd d=some p/\p.canLay0=true
 | .non,_=>⟨.none,rfl,rfl⟩
 | .bl b,_=>⟨.bool b,rfl,rfl⟩
 | .int i,_=>⟨.int i,rfl,rfl⟩
 | .str x,g=>⟨.str x,rfl,by simpa [zkr,PyData.canLay0] using g⟩
 | .tup ds,g=>by
  have g2:zhB ds=true:=by simp [zkr] at g;exact g.2
  obtain ⟨ps,e,c⟩:=zfB g2
  exact ⟨.tuple ps,by unfold pd;rw [e];rfl,c⟩
 | .lst ds,g=>by
  have g2:zhB ds=true:=by simp [zkr] at g;exact g.2
  obtain ⟨ps,e,c⟩:=zfB g2
  exact ⟨.list ps,by unfold pd;rw [e];rfl,c⟩
 | .cel _,g=>by simp [zkr] at g
 | .set _,g=>by simp [zkr] at g
 | .dct,g=>by simp [zkr] at g
 | .fn _,g=>by simp [zkr] at g
 | .scr _,g=>by simp [zkr] at g
 | .exn _,g=>by simp [zkr] at g
theorem zfB: ∀ {ds:List D},zhB ds=true-> ∃ ps,pdL ds=some ps/\PyData.canLayAll0 ps=true
 | [],_=>⟨[],rfl,rfl⟩
 | d::r,g=>by
  simp [zhB] at g
  obtain ⟨p,e,c⟩:=znO g.1
  obtain ⟨ps,e2,c2⟩:=zfB g.2
  exact ⟨p::ps,by unfold pdL;rw [e,e2],by simp [PyData.canLayAll0,c,c2]⟩
end
theorem zcK: ∀ xs:List Int,pdL (xs.map D.int)=some (xs.map PyData.int)
 | []=>rfl
 | x::r=>by rw [qaM,pdL,zcK r];rfl
theorem zaY: ∀ xs:List Int,PyData.canLayAll0 (xs.map PyData.int)=true
 | []=>rfl
 | x::r=>by simp [PyData.canLayAll0,PyData.canLay0,zaY r]
theorem zbc: ∀ xs:List Int,PyData.depthAll (xs.map PyData.int)=0
 | []=>rfl
 | x::r=>by simp [PyData.depthAll,PyData.depth,zbc r]
theorem zet: ∀ xs ys:List Int,PyData.eqvAll (xs.map PyData.int) (ys.map PyData.int)=(xs==ys)
 | [],[]=>rfl
 | [],_::_=>rfl
 | _::_,[]=>rfl
 | x::xs,y::ys=>by
  simp only [qaM,PyData.eqvAll,PyData.eqv,zet xs ys]
  rfl
theorem zdL (k:Int): ∀ xs:List Int,((xs.map PyData.int).any fun y=>PyData.eqv y (.int k))=xs.any (· == k)
 | []=>rfl
 | x::r=>by simp only [qaM,List.any_cons,zdL k r];rfl
theorem zl4 (k:Int) (xs:List Int):dIn (.int k) (.tup (xs.map D.int))=pure (.bl (xs.any (· == k))):=by
 show zlB false (.int k) (.tup (xs.map D.int))=_
 unfold zlB
 simp only [pd]
 rw [zcK]
 have c:zgR (.int k) (xs.map PyData.int)=true:=by
  unfold zgR
  simp [PyData.canLay0,zaY,PyData.depth,zbc]
 simp only [c,if_true,zdL]
 rfl
end L3
namespace L2
open PySem PySem.Spec PyProof.Rows LT
section
variable {X:Cx}
end
end L2
namespace L3
open PySem PySem.Spec PyProof.Rows L2 LT
section
variable {X:Cx} {E:XE} {a b c o e:Expr} {pos apos cpos:Pos} {fa fb fc fo fe:FE}
noncomputable def zda:D->M Unit
 | .cel n=>do let _<-zan n;pure ()
 | _=>M.bad
noncomputable def zbW (x y:D):M D:=match x with
 | .cel n=>do
  let ds<-zan n
  fits (ds.length+1)
  zbz n (ds++[y])
  pure .non
 | _=>M.bad
noncomputable def zdx (fo fe:FE):FE:=fun sd=>do
 let x<-fo sd
 zda x
 let y<-fe sd
 zbW x y
theorem zgb {α:Type} {K:W.Frag} {ι:Io} {H:Hp} {h:Hh} {n:Nat} {f:List D->M α} {P:α->Io->Hp->Prop} (q:Fin K E ι H ((zan n>>=f) h) P): ∃ ds,h[n]? = some (.lst ds)/\Fin K E ι H (f ds h) P:=by
 have q':Fin K E ι H (M.bind (zan n) f h) P:=q
 unfold M.bind at q'
 cases z:zan n h with
 | bad=>rw [z] at q';exact qa0 q'
 | exc c h'=>unfold zan at z;split at z<;>cases z
 | ok ds h'=>
  rw [z] at q'
  obtain ⟨rfl,z2⟩:=zcx z
  exact ⟨ds,z2,q'⟩
theorem zfU (ho:SE X E o fo) (he:SE X E e fe)
  (hbase:attributeBase o "append" X.env (eval o X.env)=eval o X.env:=by rfl)
  (hfew:((backTo cpos (starEach [e] X.env)).all (fun x=> !x.1) && (backToKw cpos (keywordEach [] X.env)).all (fun x=>x.1.isSome)
    && decide (([e]:List Expr).length+([]:List Keyword).length+(if ([]:List Keyword).isEmpty then 0 else 1)<30))=true:=by rfl)
  (hline:(apos.endLine==cpos.line)=true:=by rfl) (hs:starEach [e] X.env=(false,eval e X.env)::starEach [] X.env:=by rfl) (hplain:(backTo cpos (starEach [] X.env)).any (·.1)=false:=by rfl):
  SE X E (.Call (.Attribute o "append" apos) [e] [] cpos) (zdx fo fe):=by
 refine PE.imp (zn6 PySem.F.plainAttrs_list PySem.F.slot_list_append PySem.F.type_list_append zgt ho (zbt he zcV hs) hbase hfew hline hs hplain) fun σ H Q ⟨ι,h,sd,L,hh,q⟩=>⟨ι,h,sd,L,hh,Fin.bind q fun d h1 ι1 H1 e1 s1 hr1 q1 v rv=> ?_⟩
 cases d with
 | cel n=>
  have q2:Fin X.K E ι1 H1 ((zan n>>=fun _=>fe sd>>=fun y=>zbW (.cel n) y) h1) (fun d ι' H'=> ∀ v,Rel X.K ι' H' d v->Q v H'):=by
   have ee:(zda (.cel n)>>=fun _=>fe sd>>=fun y=>zbW (.cel n) y:M D)=(zan n>>=fun _=>fe sd>>=fun y=>zbW (.cel n) y):=by
    show ((zan n>>=fun _=>pure ())>>=fun _=>fe sd>>=fun y=>zbW (.cel n) y)=_
    simp only [bind_assoc,pure_bind]
   rw [<- ee]
   exact q1
  obtain ⟨ds,e2,q3⟩:=zgb q2
  obtain ⟨a,vs,rfl,hn,hH,rl⟩:=hr1.read rv e2
  refine ⟨.inl ⟨rfl,vs,SqL.of hH⟩,ι1,h1,sd,L.step s1,hr1,Fin.bind q3 fun y h3 ι3 H3 e3 s3 hr3 q4 w rw'=> ?_⟩
  have rv3:=rv.step s3
  have q5:Fin X.K E ι3 H3 ((zan n>>=fun ds=>fits (ds.length+1)>>=fun _=>zbz n (ds++[y])>>=fun _=>pure D.non) h3) (fun d ι' H'=> ∀ v,Rel X.K ι' H' d v->Q v H'):=q4
  obtain ⟨ds3,e4,q6⟩:=zgb q5
  obtain ⟨a3,vs3,ea,hn3,hH3,rl3⟩:=hr3.read rv3 e4
  cases ea
  obtain ⟨z,q7⟩:=Fin.fits q6
  refine ⟨a,vs3,w,rfl,rfl,hH3,by rw [<- rl3.length];omega,?_⟩
  have q8:Fin X.K E ι3 H3 (R.ok D.non (h3.set n (.lst (ds3++[y])))) (fun d ι' H'=> ∀ v,Rel X.K ι' H' d v->Q v H'):=q7
  exact q8 ι3 _ (hr3.cellS hn3) (hr3.cell hn3 (rl3.append (zat.cons rw' zat.nil))) _ (by simp [Rel])
 | _=>exact qa0 q1
end
end L3
namespace Att
open PySem PySem.W PySem.Calls PyProof.Rows
end Att
namespace L2
open PySem PySem.Spec PyProof.Rows
end L2
namespace L3
open PySem PySem.Spec PyProof.Rows L2 LT
section
variable {X:Cx} {E:XE}
end
end L3
namespace PySem
open Sem (wp)
open AutoSeq1 (wpAny_loadPart')
section
variable {prog:Program} {w:World} {A:Around} {E:Value->Shared->Prop} {s:Shared}
end
end PySem
namespace L2
open PySem PySem.Spec PyProof.Rows LT
section
variable {X:Cx}
end
end L2
namespace L3
open PySem PySem.Spec PyProof.Rows L2 LT
section
variable {X:Cx} {E:XE} {e:Expr} {f:FE}
end
@[simp] theorem zaC {d:D} {r:Sd}:zag 0 (some d::r)=pure d:=rfl
@[simp] theorem zaK {n:Nat} {x:Option D} {r:Sd}:zag (n+1) (x::r)=zag n r:=rfl
noncomputable def zdO (m:Int):Int->List D->Bool
 | _,[]=>true
 | l,.int i::r=>decide (l<=i) && decide (i<m) && zdO m (i+1) r
 | _,_::_=>false
theorem zbI {m:Int}: ∀ {xs:List Int} {l:Int},zdO m l (xs.map D.int)=true↔xs.Pairwise (· < ·)/\ ∀ x∈xs,l<=x/\x<m
 | [],l=>by simp [zdO]
 | x::r,l=>by
  rw [qaM,zdO,qaG,qaG,zbI (xs:=r) (l:=x+1),qay]
  simp only [qaD,qaP,forall_eq_or_imp]
  constructor
  ·rintro ⟨⟨h1,h2⟩,h3,h4⟩
   refine ⟨⟨fun y hy=> ?_,h3⟩,⟨h1,h2⟩,fun y hy=> ?_⟩
   ·have:=(h4 y hy).1;omega
   ·have:=h4 y hy;omega
  ·rintro ⟨⟨h1,h2⟩,⟨h3,h4⟩,h5⟩
   refine ⟨⟨h3,h4⟩,h2,fun y hy=> ?_⟩
   have a1:=h1 y hy
   have a2:=h5 y hy
   omega
theorem zfH {m:Int}: ∀ {ts:List D} {l:Int},zdO m l ts=true->ts.all isI=true
 | [],_,_=>rfl
 | d::r,l,h=>by
  cases d<;>first
   | (simp [zdO] at h;done)
   | (rw [zdO,qaG] at h;rw [List.all_cons,zfH h.2];rfl)
theorem zhD: ∀ {ts:List D},ts.all isI=true-> ∃ xs:List Int,ts=xs.map D.int
 | [],_=>⟨[],rfl⟩
 | d::r,h=>by
  rw [List.all_cons,qaG] at h
  obtain ⟨xs,e⟩:=zhD h.2
  cases d<;>first
   | (simp [isI] at h;done)
   | (rename_i i;exact ⟨i::xs,by rw [e];rfl⟩)
theorem zep {m:Int}: ∀ {ts:List D} {l:Int},zdO m l ts=true->l<=m->(ts.length:Int)<=m - l
 | [],l,_,h=>by simp;omega
 | d::r,l,h,hl=>by
  cases d<;>first
   | (simp [zdO] at h;done)
   | (rename_i i
      rw [zdO,qaG,qaG,qaD,qaD] at h
      have:=zep h.2 (by omega)
      simp
      omega)
def Bx (b:Nat) (h:Hh):Prop:= ∃ z:Int,h[b]? = some (.lst [.int z])
def Ext (b:Nat) (h h':Hh):Prop:=Bx b h'/\ ∀ (n:Nat) (c:C),n≠b->h[n]? = some c->h'[n]? = some c
theorem Ext.refl {b:Nat} {h:Hh} (q:Bx b h):Ext b h h:=⟨q,fun _ _ _ e=>e⟩
theorem Ext.trans {b:Nat} {h h1 h2:Hh} (p:Ext b h h1) (q:Ext b h1 h2):Ext b h h2:=⟨q.1,fun n c hn e=>q.2 n c hn (p.2 n c hn e)⟩
theorem Bx.set {b:Nat} {h:Hh} {z:Int} (q:Bx b h):Ext b h (h.set b (.lst [.int z])):=by
 obtain ⟨y,e⟩:=q
 have hl:=(qac.mp e).1
 exact ⟨⟨z,qai hl⟩,fun n c hn e=>by rw [qao (Ne.symm hn)];exact e⟩
theorem Bx.push {b:Nat} {h:Hh} {c:C} (q:Bx b h):Ext b h (h++[c]):=by
 obtain ⟨y,e⟩:=q
 have hl:=(qac.mp e).1
 refine ⟨⟨y,by rw [qad hl];exact e⟩,fun n c' hn e=> ?_⟩
 rw [qad (qac.mp e).1]
 exact e
theorem zcI {j:Int} (h0:0<=j) (h:j<1000):zka [.int j]=pure (zeO 0 j.toNat):=by
 show (if zbs j=true then _ else _)=_
 rw [qa4 (by unfold zbs;simp;omega)]
theorem zgd {n:Nat} {d:D} (h:d∈zeO 0 n): ∃ i:Int,d= .int i/\0<=i/\i<n:=by
 unfold zeO at h
 obtain ⟨k,hk,e⟩:=qaU.mp h
 have:=List.mem_range.mp hk
 exact ⟨0+(k:Int),e.symm,by omega,by omega⟩
theorem zfV {n:Nat}:(zeO 0 n).length=n:=by unfold zeO;simp
theorem zdb (n:Nat):zeO 0 n=((List.range n).map fun (k:Nat)=>(k:Int)).map D.int:=by unfold zeO;simp
theorem zlg {α:Type} {c:Prop} [Decidable c] {a b:M α} {h:Hh} {P:α->Hh->Prop}:wp (if c then a else b) h P↔if c then wp a h P else wp b h P:=by split<;>exact Iff.rfl
theorem zoB {m:Int} (h0:0<=m) (h:m<=1000):zsT (.int 1) (.int m)=pure (.int (1*2^m.toNat)):=by
 show (if zpb 1 m=true then _ else _)=_
 rw [qa4 (by unfold zpb;simp;omega)]
theorem znN {i m:Int} (h0:0<=m):zsH (.int i) (.int m)=pure (.int (i / 2^m.toNat)):=by
 show (if decide (0<=m)=true then _ else _)=_
 rw [qa4 (by simpa using h0)]
theorem znR:zo6 (.int 10) (.int 12)=pure (.int 1000000000000):=by
 unfold zo6 dII
 simp only
 rw [qa4 (by decide)]
 rfl
theorem zny (i:Int):Builtin.bitAnd i 1=i % 2:=by
 exact bitAnd_m1 i
theorem zdc {f:D->M (Option D)} {k:D->Option D} {h:Hh}: ∀ {ds:List D} {P:List D->Hh->Prop},(∀ x∈ds,wp (f x) h fun o h'=>o=k x/\h'=h)->P (ds.filterMap k) h->wp (zbY f ds) h P
 | [],P,_,q=>by rw [zbY,zai];exact q
 | x::r,P,hf,q=>by
  rw [zbY,zaj]
  refine zhv (hf x qau) ?_
  rintro o h' ⟨rfl,rfl⟩
  rw [zaj]
  refine zdc (k:=k) (fun y hy=>hf y (qan _ hy)) ?_
  rw [zai]
  cases e:k x with
  | none=>rw [qat,e] at q;exact q
  | some y=>rw [qat,e] at q;exact q
theorem zjm {fi:FA} {g:D->Sd->M Sd} {tc:FT} {te:FE} {src:List (Option Nat)} {sd:Sd} {ds:List D} {k:D->Option D} {h:Hh} {P:D->Hh->Prop} (hi:fi sd=pure ds) (hl:ds.length<=1000) (hf: ∀ x∈ds,wp (zbl g tc te (zas src sd) x) h fun o h'=>o=k x/\h'=h) (q:P (.lst (ds.filterMap k)) h):wp (zaI fi g tc te src sd) h P:=by
 unfold zaI
 rw [hi]
 simp only [pure_bind]
 rw [zay hl]
 simp only [pure_bind]
 rw [zaj]
 refine zdc hf ?_
 rw [zai]
 exact q
theorem zoH {xs:List Int} {i:Int} (h:xs.Pairwise (· < ·)) (hi:i∉xs):(zbD (xs++[i])).Pairwise (· < ·):=by
 have hn:(xs++[i]).Nodup:=by
  rw [List.nodup_append]
  refine ⟨h.imp fun z=>by omega,by simp,fun a ha b hb=> ?_⟩
  simp at hb
  subst hb
  exact fun z=>hi (z▸ha)
 have hn2:(zbD (xs++[i])).Nodup:=(zax _).nodup_iff.mpr hn
 exact ((zdh (xs++[i])).and hn2).imp fun ⟨a,b⟩=>by omega
end L3
namespace L2
open PySem PySem.Spec PyProof.Rows L3
theorem zbM.there {P:Program} {w:World} {H:Hp} {h:Heap} {a:Addr} {o:HO} (x:zbM P w H h a o): ∃ ob,h.get? a=some ob:=by
 cases o with
 | lst xs=>obtain ⟨_,_,_,_,e⟩:=x;exact ⟨_,e⟩
 | tup xs=>obtain ⟨_,_,_,ob,e,_⟩:=x;exact ⟨ob,e⟩
 | dK kvs=>obtain ⟨_,_,_,_,ob,_,_,e,_⟩:=x;exact ⟨ob,e⟩
 | dT kvs=>obtain ⟨_,_,_,_,ob,_,_,e,_⟩:=x;exact ⟨ob,e⟩
 | set S n=>obtain ⟨ob,_,_,_,e,_⟩:=x;exact ⟨ob,e⟩
 | ins C dx fs=>obtain ⟨_,_,_,e,_⟩:=x;exact ⟨_,e⟩
 | own y=>exact x
 | xd fs=>obtain ⟨_,⟨ob,_,_,e,_⟩,_⟩:=x;exact ⟨ob,e⟩
 | rng lo hi=>obtain ⟨_,_,_,e⟩:=x;exact ⟨_,e⟩
 | frz ob u=>exact ⟨ob,x.1⟩
 | tbl ps=>exact ⟨_,x⟩
 | met f y=>exact ⟨_,x⟩
 | ext φ=>exact x.2.1
structure HS (H H':Hp) (h:Heap):Prop where
 free: ∀ b o,h.get? b=some o->H b=none->H' b=none
 tups: ∀ b xs,H b=some (.tup xs)->H' b=some (.tup xs)
 frzs: ∀ b o u,H b=some (.frz o u)->H' b=some (.frz o u)
 tbls: ∀ b ps,H b=some (.tbl ps)-> ∃ more,H' b=some (.tbl (ps++more))
structure FlB (P:Program) (w:World) (l:List Env) (H:Hp) (h:Heap) (H':Hp) (B:Heap):Prop where
 old: ∀ b o,h.get? b=some o->b∉frs l-> ∃ o',B.get? b=some o'/\(H b=none->o'=o)
 trk: ∀ b u,H' b=some u-> ∃ o,B.get? b=some o
 ok:HOk P w H' B
structure Fl (P:Program) (w:World) (l:List Env) (H:Hp) (s:Shared) (a C:Addr) (fl:Value) (H':Hp) (s':Shared):Prop where
 os:s'.os=s.os
 bare:AllBare s'.gens
 base: ∃ B:Heap,Fly B l a (.ref C) fl s'.heap/\FlB P w l H s.heap H' B
 slot: ∀ b o,s.heap.get? b=some o->H b=none->b∈frs l-> ∃ sl,s'.heap.get? b=some {o with slots:=sl}
 hs:HS H H' s.heap
section
variable {P:Program} {w:World} {l:List Env} {H H':Hp} {s s':Shared} {a C:Addr} {fl:Value}
theorem Fl.un (y:Fl P w l H s a C fl H' s'):Un (frs l) [] H H' s.heap s'.heap:=by
 obtain ⟨B,y1,y2⟩:=y.base
 refine ⟨fun b o e n hb _=> ?_,fun b o e n hb _=>y.slot b o e n hb,fun b o e n _=>y.hs.free b o e n,fun b o e _=> ?_,y.hs.tups,y.hs.frzs,y.hs.tbls⟩
 ·obtain ⟨o',e',q⟩:=y2.old b o e hb
  rw [<- q n]
  exact y1.stays b o' e'
 ·by_cases hb:b∈frs l
  ·obtain ⟨_,o',e',_⟩:=y1.frames.mem hb
   exact ⟨o',e'⟩
  ·obtain ⟨o',e',_⟩:=y2.old b o e hb
   exact ⟨o',y1.stays b o' e'⟩
theorem Fl.hok (y:Fl P w l H s a C fl H' s'):HOk P w H' s'.heap:=by
 obtain ⟨B,y1,y2⟩:=y.base
 exact y2.ok.kept y1.stays
theorem Fl.exc (y:Fl P w l H s a C fl H' s'): ∃ head,zhq s'.heap a (.ref C) head:=by
 obtain ⟨B,y1,y2⟩:=y.base
 obtain ⟨hd,z,_⟩:=y1.exc
 exact ⟨hd,z⟩
theorem Fl.fresh (y:Fl P w l H s a C fl H' s'):s.heap.get? a=none/\H' a=none/\a∉frs l:=by
 obtain ⟨B,y1,y2⟩:=y.base
 have nf:a∉frs l:=fun z=>by
  obtain ⟨_,o,e,n⟩:=y1.frames.mem z
  obtain ⟨_,⟨ob,vs,e2,_,_,d,_⟩,_⟩:=y1.exc
  rw [e] at e2
  cases e2
  exact n vs d
 refine ⟨?_,?_,nf⟩
 ·cases q:s.heap.get? a with
  | none=>rfl
  | some o=>
   obtain ⟨o',e,_⟩:=y2.old a o q nf
   rw [y1.new] at e
   cases e
 ·cases q:H' a with
  | none=>rfl
  | some u=>
   obtain ⟨o',e⟩:=y2.trk a u q
   rw [y1.new] at e
   cases e
theorem Fl.mv {B h':Heap} {fl':Value} (os:s'.os=s.os) (bare:AllBare s'.gens) (slot: ∀ b o,s.heap.get? b=some o->H b=none->b∈frs l-> ∃ sl,s'.heap.get? b=some {o with slots:=sl}) (hs:HS H H' s.heap)
  (fr:s'.heap.FunFrames B l) (z:Fly B l a (.ref C) fl' h') (y:FlB P w l H s.heap H' B) (u:s'.heap.UpToSlots h'):Fl P w l H s a C fl' H' {s' with heap:=h'}:=by
 refine ⟨os,bare,⟨B,z,y⟩,fun b o e n hb=> ?_,hs⟩
 obtain ⟨sl,e2⟩:=slot b o e n hb
 obtain ⟨_,o2,e3,n3⟩:=fr.mem hb
 rw [e2] at e3
 cases e3
 obtain ⟨sl',e4⟩:=u b _ e2 n3
 exact ⟨sl',e4⟩
section
variable {M:Model} {A:Around} {E:Value->Shared->Prop} {env:Env} {outer:List Env} {L:Addr} {Q:Unit->Shared->Prop}
theorem Fl.note (y:Fl P w (env::outer) H s a C .none H' s') (hfr:A.frames=some (env::outer)) (hf:env.frame=some L) (k: ∀ h',Fl P w (env::outer) H s a C (rawInt L) H' {s' with heap:=h'}->Q () {s' with heap:=h'}):
  wpAny M A (noteFrame (.ref a) env) Q E s':=by
 obtain ⟨B,y1,y2⟩:=y.base
 exact zjQ hfr hf y1 fun h' z u=>k h' (Fl.mv y.os y.bare y.slot y.hs y1.frames z y2 u)
theorem Fl.off (y:Fl P w l H s a C fl H' s') (k: ∀ h',Fl P w l H s a C .none H' {s' with heap:=h'}->Q () {s' with heap:=h'}):wpAny M A (setFlight (.ref a) none) Q E s':=by
 obtain ⟨B,y1,y2⟩:=y.base
 exact zd1 y1 fun h' z u=>k h' (Fl.mv y.os y.bare y.slot y.hs y1.frames z y2 fun b o e n=>⟨o.slots,u b o e n⟩)
end
end
structure ze7 (X:Cx):Prop where
 stk:X.stack=X.env::X.outer
 frm:X.env.frame=some X.env.locals
 ex:X.ex=[]
theorem ze7.frs {X:Cx} (z:ze7 X):frs X.stack=X.env.locals::frs X.outer:=by
 rw [z.stk]
 unfold L2.frs
 rw [qat,z.frm]
section
variable {X:Cx} {pins:List (Addr×Obj)} {σ:St} {H H':Hp} {s s':Shared} {a C:Addr} {M:Model} {E:Value->Shared->Prop} {Q:Unit->Shared->Prop}
theorem Inv.below (I:Inv X pins σ H s) {b:Addr} {o:Obj} (e:X.s₀.heap.get? b=some o):b≠X.env.locals:=qaR (qaw (qaQ e) I.ok.above)
theorem Fl.leave (z:ze7 X) (I:Inv X pins σ H s) (y:Fl X.prog X.w X.stack H s a C .none H' s') (k: ∀ s2,Fl X.prog X.w X.outer X.H₀ X.s₀ a C .none H' s2->Q () s2):wpAny M X.A (leaving X.env (.ref a)) Q E s':=by
 have nex: ∀ b,b∉X.ex:=fun b h=>by rw [z.ex] at h;cases h
 obtain ⟨B,y1,y2⟩:=y.base
 have hfr:=I.ok.frames
 rw [z.stk] at hfr y1
 refine zlG hfr z.frm y1 fun h' q u=>k _ ?_
 have nin: ∀ b o,X.s₀.heap.get? b=some o->b∉frs X.outer->b∉frs X.stack:=fun b o e hb hm=>by
  rw [z.frs] at hm
  rcases qaP.mp hm with r | r
  ·exact I.below e r
  ·exact hb r
 refine ⟨y.os.trans I.os,y.bare,⟨B,q,fun b o e hb=> ?_,y2.trk,y2.ok⟩,fun b o e n hb=> ?_,fun b o e n=> ?_,fun b xs e=>y.hs.tups b xs (I.base.tups b xs e),fun b o v e=>y.hs.frzs b o v (I.base.frzs b o v e),fun b ps e=> ?_⟩
 ·obtain ⟨o1,e1⟩:=I.base.there b o e (nex b)
  obtain ⟨o2,e2,q2⟩:=y2.old b o1 e1 (nin b o e hb)
  refine ⟨o2,e2,fun n=> ?_⟩
  have e3:=I.base.keep b o e n hb (nex b)
  rw [e1] at e3
  cases e3
  exact q2 (I.base.free b o e n (nex b))
 ·obtain ⟨sl,e1⟩:=I.base.slot b o e n hb (nex b)
  have hb2:b∈frs X.stack:=by rw [z.frs];exact qan _ hb
  obtain ⟨sl2,e2⟩:=y.slot b _ e1 (I.base.free b o e n (nex b)) hb2
  obtain ⟨_,o3,e3,n3⟩:=y1.frames.mem (by rw [<- z.stk];exact hb2)
  rw [e2] at e3
  cases e3
  obtain ⟨sl4,e4⟩:=u b _ e2 n3
  exact ⟨sl4,e4⟩
 ·obtain ⟨o1,e1⟩:=I.base.there b o e (nex b)
  exact y.hs.free b o1 e1 (I.base.free b o e n (nex b))
 ·obtain ⟨m1,e1⟩:=I.base.tbls b ps e
  obtain ⟨m2,e2⟩:=y.hs.tbls b _ e1
  exact ⟨m1++m2,by rw [e2,Array.append_assoc]⟩
theorem Fl.made {h':Heap} {vs:List Value} (z:ze7 X) (I:Inv X pins σ H s) (m:Heap.MadeExcOf s.heap h' a (.ref C) vs) (k: ∀ s2,Fl X.prog X.w X.outer X.H₀ X.s₀ a C .none H s2->Q () s2):wpAny M X.A (leaving X.env (.ref a)) Q E {s with heap:=h'}:=by
 have nex: ∀ b,b∉X.ex:=fun b h=>by rw [z.ex] at h;cases h
 have hfr:=I.ok.frames
 have hl:=I.stack
 have hin: ∀ env∈X.stack, ∀ b,env.frame=some b->b∈frs X.stack:=fun env he b hb=>List.mem_filterMap.mpr ⟨env,he,hb⟩
 have hl2:=W.funFrames_hide hl hin
 have hl3:h'.FunFrames (W.hideAll s.heap (frs X.stack)) X.stack:=hl2.of_keeps fun b o e _=>⟨o,m.keeps b o e,rfl⟩
 have inB: ∀ {b:Addr} {o:Obj},s.heap.get? b=some o->b∉frs X.stack->(W.hideAll s.heap (frs X.stack)).get? b=some o:=fun e n=>W.hideAll_get _ e n
 have ofB: ∀ {b:Addr} {o:Obj},(W.hideAll s.heap (frs X.stack)).get? b=some o->s.heap.get? b=some o:=fun e=>W.of_hideAll _ e
 have trk: ∀ b u,H b=some u->b∉frs X.stack:=fun b u e hm=>by rw [I.stkFree b hm] at e;cases e
 have newB:(W.hideAll s.heap (frs X.stack)).get? a=none:=by
  cases q:(W.hideAll s.heap (frs X.stack)).get? a with
  | none=>rfl
  | some o=>have:=ofB q;rw [m.new] at this;cases this
 have hst:=z.stk
 refine zhx (B:=W.hideAll s.heap (frs X.stack)) (by rw [<- hst];exact hfr) (by rw [<- hst];exact hl3) z.frm (zlT m) (fun b o e=>m.keeps b o (ofB e)) newB fun h2 q u=>k _ ?_
 have nin: ∀ b o,X.s₀.heap.get? b=some o->b∉frs X.outer->b∉frs X.stack:=fun b o e hb hm=>by
  rw [z.frs] at hm
  rcases qaP.mp hm with r | r
  ·exact I.below e r
  ·exact hb r
 refine ⟨I.os,I.bare,⟨_,q,fun b o e hb=> ?_,fun b v e=> ?_,fun b v e=> ?_⟩,fun b o e n hb=> ?_,fun b o e n=>I.base.free b o e n (nex b),I.base.tups,I.base.frzs,I.base.tbls⟩
 ·obtain ⟨o1,e1⟩:=I.base.there b o e (nex b)
  refine ⟨o1,inB e1 (nin b o e hb),fun n=> ?_⟩
  have e3:=I.base.keep b o e n hb (nex b)
  rw [e1] at e3
  cases e3
  rfl
 ·obtain ⟨o,e1⟩:=(I.hok b v e).there
  exact ⟨o,inB e1 (trk b v e)⟩
 ·refine (I.hok b v e).stay (fun c o hc e1=>inB e1 ?_) (fun _ r=>r) fun _ _ r=>r
  rcases hc with rfl | hc
  ·exact trk _ v e
  ·exact trk _ _ hc
 ·obtain ⟨sl,e1⟩:=I.base.slot b o e n hb (nex b)
  have hb2:b∈frs X.stack:=by rw [z.frs];exact qan _ hb
  obtain ⟨_,o3,e3,n3⟩:=hl.mem hb2
  rw [e1] at e3
  cases e3
  obtain ⟨sl4,e4⟩:=u b _ (m.keeps b _ e1) n3
  exact ⟨sl4,e4⟩
end
noncomputable def CXE (P:Program) (w:World):CXT:=fun outer H s E e s'=> ∃ a C H',e= .ref a/\Fl P w outer H s a C .none H' s'/\E e (some C) H'
end L2
namespace L3
open PySem PySem.Spec PyProof.Rows L2
def zbK (K:W.Frag) (c:String) (C:Addr):Prop:=W.nsIn K mainGlobals (c:Str)=some (some (.ref C))
noncomputable def znb (K:W.Frag) (E:XE):XK:=fun _ oc H'=> ∃ c C,oc=some C/\zbK K c C/\E c H'
noncomputable def zrI (K:W.Frag) (E:XK):XE:=fun c H'=> ∀ C v,zbK K c C->E v (some C) H'
def zog (X:Cx) (E:XE):Prop:= ∀ (pins:List (Addr×Obj)) (σ:St) (H:Hp) (s:Shared) (h':Heap) (a C:Addr) (c:String) (vs:List Value),Inv X pins σ H s->zbK X.K c C->Heap.MadeExcOf s.heap h' a (.ref C) vs->E c H->X.xe (.ref a) {s with heap:=h'}
section
variable {P:Program} {w:World} {K:W.Frag} {mg:Str->Option Value} {base:Heap} {N:List Str} {qual:Str} {scope:Scope} {f:Addr} {cd:Value} {A:Around} {outer:List Env} {s:Shared} {H:Hp} {E:XK}
theorem zm3:ze7 (zhp (CXE P w) P w K mg base N qual scope f cd A outer s H E):=⟨rfl,rfl,rfl⟩
theorem zf1:zc3 (CXE P w) (zhp (CXE P w) P w K mg base N qual scope f cd A outer s H E) (znb K (zrI K E)):=by
 intro pins σ H1 s1 e s2 I h
 obtain ⟨a,C,H2,rfl,y,c,C',e1,hc,he⟩:=h
 cases e1
 exact Fl.leave zm3 I y fun s3 y3=>⟨a,C,H2,rfl,y3,he _ _ hc⟩
theorem zig:zog (zhp (CXE P w) P w K mg base N qual scope f cd A outer s H E) (zrI K E):=by
 intro pins σ H1 s1 h' a C c vs I hc m he
 exact Fl.made zm3 I m fun s3 y3=>⟨a,C,H1,rfl,y3,he _ _ hc⟩
end
noncomputable def noX {α:Type} (m:M α):M α:=fun h=>match m h with
 | .exc _ _=> .bad
 | r=>r
theorem Fin.noX {α:Type} {K:W.Frag} {E E':XE} {ι:Io} {H:Hp} {m:M α} {h:Hh} {P:α->Io->Hp->Prop} (q:Fin K E ι H (L3.noX m h) P):Fin K E' ι H (m h) P:=by
 unfold L3.noX at q
 cases e:m h with
 | ok a h'=>rw [e] at q;exact q
 | exc c h'=>rw [e] at q;exact qa0 q
 | bad=>rw [e] at q;exact q
noncomputable def spE (K:W.Frag) (n:Nat) (F:List D->M D):Sp:=fun vs H Q E=>vs.length=n/\ ∃ ι h ds,zat K ι H ds vs/\za9 K ι H h/\Fin K (zrI K E) ι H (F ds h) fun d ι' H'=> ∀ v,Rel K ι' H' d v->Q v H'
section
variable {P:Program} {w:World} {K:W.Frag} {mg:Str->Option Value} {base:Heap}
theorem zgy {x qual:Str} {st:Stmt} {f:Addr} {fd:FuncData} {N ps:List Str} {k:Nat} {G:Sd->M Out} (F:Fun K x qual st f fd) (S:zaq N ps (zae st))
  (hb: ∀ (cdv:Value) (A:Around) (outer:List Env) (s:Shared) (H:Hp) (E:XK),zds k (A.deeper (envOfC qual (zae st) s.heap.objs.size f cdv))->SSs (zhp (CXE P w) P w K mg base N qual (zae st) f cdv A outer s H E) (zrI K E) (zcq st) G):
  zbw P w K mg base (CXE P w) (k+1) f fd ps (spE K ps.length (zcQ N.length G)):=by
 obtain ⟨oc,od,kV,doc,pm,an,cdv,ct,osl,rfl,lk,hcd⟩:=F.ex
 refine zq3 lk hcd S (fun vs H Q E h=>h.1) fun A outer s H vs Q E hr ⟨hl,ι,h,ds,rl,hh,q⟩=>⟨_,hb cdv A outer s H E hr,ι,h,zfv N.length ds,zd7 rl,hh,?_⟩
 refine Fin.bind q fun o h1 ι1 H1 e1 s1 hr1 q1=> ?_
 cases o with
 | nx sd=>exact fun σ' _=>Fin.out hr1 q1 _ (by simp [Rel])
 | rt d=>exact fun v rv=>Fin.out hr1 q1 v rv
 | bk sd=>exact qa0 q1
 | ct sd=>exact qa0 q1
end
section
variable {X:Cx} {E:XE} {e:Expr} {es:List Expr} {pos p:Pos}
theorem Fin.exmono {α:Type} {K:W.Frag} {E E':XE} {ι:Io} {H:Hp} {r:R α} {P:α->Io->Hp->Prop} (m: ∀ c H',E c H'->E' c H') (q:Fin K E ι H r P):Fin K E' ι H r P:=by
 cases r with
 | ok a h'=>exact q
 | exc c h'=>exact fun ι2 H2 t hr=>m _ _ (q ι2 H2 t hr)
 | bad=>exact q
theorem zmh {k:Nat} {f:Addr} {fd:FuncData} {ps:List Str} {n:Nat} {F:List D->M D} {fs:Sd->M (List D)} {x:Str} (G:zbw X.prog X.w X.K X.mg X.base (CXE X.prog X.w) k f fd ps (spE X.K n F)) (hx:zc3 (CXE X.prog X.w) X (znb X.K E)) (hr:zds k X.A) (hg:Gl X x) (hm:X.mg x=some (.ref f)) (hk:W.keepIn X.K (.ref f)=true) (hb:zaH X.K fd ps [])
  (ha:SA X E (e::es) fs) (hdb:(x==("__debug__":Str))=false:=by decide) (he:starEach (e::es) X.env=(false,eval e X.env)::starEach es X.env:=by rfl) (hpl:(backTo pos (starEach es X.env)).any (·.1)=false:=by rfl):
  SE X E (.Call (.Name x p) (e::es) [] pos) (zaF (zau n F) fs):=by
 refine PE.imp (zhN G hr hg hm hk hb (dvs:=[]) .nil hx ha hdb he hpl) fun σ H Q ⟨ι,h,sd,L,hh,q⟩=>⟨ι,h,sd,L,hh,Fin.bind q fun ds h1 ι1 H1 e1 s1 hr1 q1 vs rv=> ?_⟩
 show spE X.K n F (vs++[]) H1 Q _
 rw [List.append_nil]
 unfold zau at q1
 by_cases hl:ds.length=n
 ·rw [qa4 hl] at q1
  exact ⟨by rw [<- rv.length];exact hl,ι1,h1,ds,rv,hr1,Fin.exmono (fun c H' z C v hc=>⟨c,C,rfl,hc,z⟩) q1⟩
 ·rw [qa5 hl] at q1
  exact qa0 q1
theorem zmr {k:Nat} {f:Addr} {fd:FuncData} {ps:List Str} {n:Nat} {F:List D->M D} {fs:Sd->M (List D)} {x:Str} (G:zbw X.prog X.w X.K X.mg X.base CX0 k f fd ps (zb6 X.K n F)) (hr:zds k X.A) (hg:Gl X x) (hm:X.mg x=some (.ref f)) (hk:W.keepIn X.K (.ref f)=true) (hb:zaH X.K fd ps [])
  (ha:SA X E (e::es) fs) (hdb:(x==("__debug__":Str))=false:=by decide) (he:starEach (e::es) X.env=(false,eval e X.env)::starEach es X.env:=by rfl) (hpl:(backTo pos (starEach es X.env)).any (·.1)=false:=by rfl):
  SE X E (.Call (.Name x p) (e::es) [] pos) (zaF (zau n fun ds=>noX (F ds)) fs):=by
 refine PE.imp (zhN G hr hg hm hk hb (dvs:=[]) .nil (E:=fun _ _ _=>False) zp4 ha hdb he hpl) fun σ H Q ⟨ι,h,sd,L,hh,q⟩=>⟨ι,h,sd,L,hh,Fin.bind q fun ds h1 ι1 H1 e1 s1 hr1 q1 vs rv=> ?_⟩
 show zb6 X.K n F (vs++[]) H1 Q _
 rw [List.append_nil]
 unfold zau at q1
 by_cases hl:ds.length=n
 ·rw [qa4 hl] at q1
  exact ⟨by rw [<- rv.length];exact hl,ι1,h1,ds,rv,hr1,Fin.noX q1⟩
 ·rw [qa5 hl] at q1
  exact qa0 q1
end
end L3
namespace L2
open PySem PySem.Spec PyProof.Rows L3
structure zc1 (k:Nat) (A:Around):Prop where
 dp:A.depth+3*k+5<recursionLimit
 un:A.units+16*k+200<cLine
theorem zc1.of {k:Nat} {A:Around} (r:zds k A):zc1 k A:=⟨r.dp,r.un⟩
theorem zc1.deeper {k:Nat} {A:Around} (r:zc1 (k+1) A) (env:Env):zc1 k (A.deeper env):=
 ⟨by have:=r.dp;show A.depth+1+3*k+5<_;omega,by have:=r.un;show A.units+3+16*k+200<_;omega⟩
theorem zc1.mono {j k:Nat} {A:Around} (r:zc1 k A) (h:j<=k):zc1 j A:=⟨by have:=r.dp;omega,by have:=r.un;omega⟩
structure FnH (P:Program) (w:World) (K:W.Frag) (mg:Str->Option Value) (base:Heap) (k:Nat) (f:Addr) (fd:FuncData) (ps:List Str) (sp:Sp):Prop where
 len: ∀ vs H Q E,sp vs H Q E->vs.length=ps.length
 run: ∀ (A:Around) (outer:List Env) (s:Shared) (H:Hp) (args:Args) (us:List Value) (vs:List V) (Q:VK),zc1 k A->zlR P w K mg base A outer s H->BindsTo s fd args (ps.zip us)->za2 vs us->sp vs H Q E0->
  codeAny (model P w) A (.call (.ref f) args) (CR CX0 outer P w H s Q E0) s
theorem zro {P:Program} {w:World} {K:W.Frag} {mg:Str->Option Value} {base:Heap} {k:Nat} {f:Addr} {name qual:Str} {params:Arguments} {body:List Stmt} {scope:Scope} {dV kV doc pm cdv ct oc:Value} {an od:Option Addr}
  {osl:Array (Option Value)} {N ps:List Str} {sp:Sp} (lk:K.lookup f=some ⟨oc,od,.func (W.fnOf name qual params body scope dV kV doc pm an cdv ct),osl⟩) (hcd:W.codeIn K cdv qual=true) (S:zaq N ps scope)
  (len: ∀ vs H Q E,sp vs H Q E->vs.length=ps.length)
  (hbody: ∀ (A:Around) (outer:List Env) (s:Shared) (H:Hp) (vs:List V) (Q:VK),zc1 k (A.deeper (envOfC qual scope s.heap.objs.size f cdv))->sp vs H Q E0->
    ∃ t,PSs ({zhp CX0 P w K mg base N qual scope f cdv A outer s H E0 with calm:=false}:Cx).nox body t/\t {nx:=fun _ H'=>Q .non H',rt:=Q} (zdY N vs) H):
  FnH P w K mg base (k+1) f (W.fnOf name qual params body scope dV kV doc pm an cdv ct) ps sp:=by
 refine ⟨len,fun A outer s H args us vs Q hr e0 hb r hsp=> ?_⟩
 have hl:=len _ _ _ _ hsp
 have KX:K.In s.heap:=e0.mod.kin.keeps fun b o e=>(e0.bs b o e).1
 have lim:s.heap.NoLimit:=e0.mod.nolimit.keeps fun b o e=>(e0.bs b o e).1
 have hkind: ∀ y∈ps.zip us,scope.names.lookup y.1=some .local\/(scope.names.lookup y.1=some .cell/\((cellsFrom (s.heap.objs.size+1) scope.names []).lookup y.1).isSome=true):=fun ⟨n,v⟩ hy=>by
  rcases S.par n (List.of_mem_zip hy).1 with q | q
  ·exact .inl q
  ·exact .inr ⟨q,W.cellsFrom_some _ _ _ (.inl q)⟩
 refine codeAny_call_function (by have:=hr.dp;omega) (KX _ _ lk) rfl S.co S.gen rfl (W.codeRec_of KX hcd) (hb _ _ _ _ ?_)
 refine wpAny_newFunctionEnv_cells S.kind hkind fun env he s1 x=> ?_
 subst he
 refine ⟨lim.keeps x.toInCall.keep,codeAny_func ?_⟩
 obtain ⟨t,ht,hq⟩:=hbody A outer s H vs Q (hr.deeper _) hsp
 have I:Inv {zhp CX0 P w K mg base N qual scope f cdv A outer s H E0 with calm:=false} [] (zdY N vs) H s1:=zgz (cm:=false) S (fun z=>by cases z) e0 hl r x
 refine qaZ (ht.nox [] s1 (zdY N vs) H _ I hq) (fun fl s' hs=> ?_) fun e s' hs=>hs
 have fin: ∀ {σ':St} {H':Hp} {v:V} {u:Value},Inv {zhp CX0 P w K mg base N qual scope f cdv A outer s H E0 with calm:=false} [] σ' H' s'->zby v u->Q v H'->CE outer P w H s Q u s':=
  fun {σ' H' v u} J rv q=>⟨v,H',J.os,J.bare,J.base,J.hok,rv,q⟩
 cases fl with
 | ret u=>
  obtain ⟨v,σ',H',J,rv,q⟩:=hs
  exact fin J rv q
 | next=>
  obtain ⟨σ',H',J,q⟩:=hs
  exact fin (v:=V.non) (u:=Value.none) J rfl q
 | brk=>
  obtain ⟨_,_,_,q⟩:=hs
  exact qa0 q
 | cont=>
  obtain ⟨_,_,_,q⟩:=hs
  exact qa0 q
section
variable {X:Cx} {pins:List (Addr×Obj)} {σ:St} {H H':Hp} {s s':Shared} {a:Addr} {o:Obj}
theorem Inv.track (I:Inv X pins σ H s) (hH:H a=none) (ho:s.heap.get? a=some o) (h0:X.s₀.heap.get? a=none) (hL:a≠X.env.locals) (hc: ∀ x c,X.env.cells.lookup x=some c->c≠a) (hp: ∀ p∈X.pn++pins,p.1≠a):
  Inv X pins σ (upd H a (.frz o (.own 0))) s:=by
 have un: ∀ {b:Addr} {u:HO},H b=some u->upd H a (.frz o (.own 0)) b=some u:=fun e=>by rw [zaz (zaO e hH)];exact e
 refine ⟨I.ok,I.os,I.bare,⟨I.base.keep,I.base.slot,fun b ob e n hx=> ?_,I.base.there,fun b xs e=>un (I.base.tups b xs e),fun b ob u e=>un (I.base.frzs b ob u e),fun b ps e=> ?_⟩,I.loc,I.cell,?_,fun x c e=> ?_,fun p q=> ?_,fun b u e=> ?_,I.len⟩
 ·rw [zaz (fun z=>by subst z;rw [h0] at e;cases e)]
  exact I.base.free b ob e n hx
 ·obtain ⟨m,e1⟩:=I.base.tbls b ps e
  exact ⟨m,un e1⟩
 ·rw [zaz (Ne.symm hL)]
  exact I.free
 ·rw [zaz (hc x c e)]
  exact I.freeC x c e
 ·obtain ⟨e1,e2,e3⟩:=I.pin p q
  exact ⟨e1,by rw [zaz (hp p q)];exact e2,e3⟩
 ·by_cases hb:b=a
  ·subst hb
   rw [zaV] at e
   cases e
   exact ⟨ho,o,ho⟩
  ·rw [zaz hb] at e
   exact (I.hok b u e).stay (fun _ _ _ z=>z) (fun c z=>un z) fun c xs z=>un z
theorem zo3 {M:Model} {A:Around} {E:Value->Shared->Prop} {i:Nat} {x:Str} {pos:Pos} {Q:Unit->Shared->Prop} (I:Inv X pins σ H s) (hN:X.N.Nodup) (hi:X.N[i]? = some x) (hk:X.env.scope.names.lookup x=some .local)
  (h: ∀ s',Inv X pins (σ.set i none) H s'->Q () s'):wpAny M A (do bindName X.env x .none;unbindBehindTheSuite X.env x pos) Q E s:=by
 obtain ⟨m,hn,hl⟩:=id I.loc
 have hcls:(X.env.scope.kind== .class || (X.env.scope.kind== .module && X.env.locals != X.env.globals))=false:=by rw [I.ok.kind];rfl
 have hiσ:i<σ.length:=by rw [I.len];exact (qac.mp hi).1
 have cne:=I.cne
 refine wpAny_nameGoes_keeps hk hn hcls fun h' v hn' hs=> ?_
 obtain ⟨oL,_,_,hoL,_⟩:=id hn
 refine h _ ⟨I.ok,I.os,I.bare,⟨fun b ob e n hb hx=> ?_,fun b ob e n hb hx=> ?_,I.base.free,fun b ob e hx=> ?_,I.base.tups,I.base.frzs,I.base.tbls⟩,⟨_,hn',fun j y v' e1 e2 e3=> ?_⟩,fun y c e=> ?_,I.free,I.freeC,fun p hp=> ?_,fun b ob e=> ?_,by simpa using I.len⟩
 ·exact (hs.2 b (I.below e)).trans (I.base.keep b ob e n hb hx)
 ·obtain ⟨sl,e1⟩:=I.base.slot b ob e n hb hx
  exact ⟨sl,(hs.2 b (I.below e)).trans e1⟩
 ·obtain ⟨o',e1⟩:=I.base.there b ob e hx
  exact ⟨o',(hs.2 b (I.below e)).trans e1⟩
 ·by_cases hj:j=i
  ·subst hj
   rw [qai hiσ] at e2
   cases e2
  ·rw [qao (Ne.symm hj)] at e2
   obtain ⟨u',r',q⟩:=hl j y v' e1 e2 e3
   refine ⟨u',r',?_⟩
   rcases q with ⟨k,e⟩ | ⟨k,c,e,z⟩
   ·refine .inl ⟨k,?_⟩
    have:y≠x:=fun e=>hj (zfD hN e1 (e▸hi))
    simp [this,e]
   ·exact .inr ⟨k,c,e,z.sameBut hs (cne y c e)⟩
 ·obtain ⟨w',z⟩:=I.cell y c e
  exact ⟨w',z.sameBut hs (cne y c e)⟩
 ·obtain ⟨e,n,ne,nf,d⟩:=I.pin p hp
  exact ⟨(hs.2 p.1 ne).trans e,n,ne,nf,d⟩
 ·refine (I.hok b ob e).stay (fun c w' hc q=>(hs.2 c ?_).trans q) (fun _ q=>q) fun _ _ q=>q
  rintro rfl
  rcases hc with rfl | hc
  ·rw [I.free] at e;cases e
  ·rw [I.free] at hc;cases hc
end
section
variable {X:Cx} {pins:List (Addr×Obj)} {σ:St} {H H':Hp} {s s':Shared} {a C CE:Addr} {ce en:Str} {pce pos:Pos} {b₀:Stmt} {suite:List Stmt} {j:Nat} {Q:Flow->Shared->Prop} {E:Value->Shared->Prop}
theorem Fl.caught (z:ze7 X) (I:Inv X pins σ H s) (y:Fl X.prog X.w X.stack H s a C .none H' s') (hN:X.N.Nodup) (hj:X.N[j]? = some en) (hen:X.env.scope.names.lookup en=some .local) (hg:Gl X ce) (hm:X.mg ce=some (.ref CE)) (hx:W.exmOne X.K (.ref C) (.ref CE)=some true)
  (k: ∀ s6,Inv X pins (σ.set j (some (.ref a))) H' s6->(∃ head,zhq s6.heap a (.ref C) head)->wpAny (model X.prog X.w) (X.A.mark (some (.ref a))) (execs (b₀::suite) X.env)
    (fun f s4=>wpAny (model X.prog X.w) X.A (do bindName X.env en .none;unbindBehindTheSuite X.env en pos) (fun _ s5=>Q f s5) E s4) (fun _ _=>False) s6) (hd:(ce==("__debug__":Str))=false:=by decide):
  wpAny (model X.prog X.w) X.A (noteFrame (.ref a) X.env) (fun _ s2=>wpAny (model X.prog X.w) X.A (setFlight (.ref a) none) (fun _ s3=>
    wpAny (model X.prog X.w) X.A (handleBy (.ref a) X.env [.ExceptHandler (some (.Name ce pce)) (some en) (b₀::suite) pos]) Q E s3) E s2) E s':=by
 have hfr:=I.ok.frames
 rw [z.stk] at hfr y
 refine y.note hfr z.frm fun h3 y3=> ?_
 refine y3.off fun h4 y4=> ?_
 have ev: ∀ {hp fl},Fl X.prog X.w (X.env::X.outer) H s a C fl H' {s' with heap:=hp}->Inv X pins σ H' {s' with heap:=hp}:=fun {hp fl} y=>by
  have u:=y.un
  rw [<- z.stk] at u
  exact I.call' y.os u y.hok y.bare fun b q=>absurd q (by simp)
 have I4:=ev y4
 obtain ⟨hd4,x4⟩:=y4.exc
 have LT:W.Looks (model X.prog X.w) h4 (typeOf (.ref a)) (.ref C):=by
  obtain ⟨ob,vs,e1,e2,_⟩:=x4
  exact e2▸(W.Looks.ld e1).andThen .now
 refine wpAny_handleBy_cons (codeAny_handlers_test ?_) (by intro q;cases q)
 refine Calls.Name_function_global I4.ok.kind hg (Calls.loadGlobal_global (by rw [I4.ok.glob];exact I4.mod.glob.keeps I4.bk) hm ?_) hd
 refine (W.exm_one I4.kIn LT hx).here ?_
 refine codeAny_handlers_suite_as ?_
 refine y4.off fun h5 y5=> ?_
 have I5:=ev y5
 obtain ⟨hd5,x5⟩:=y5.exc
 have na:a≠X.env.locals/\ ∀ x c,X.env.cells.lookup x=some c->c≠a:=by
  obtain ⟨f1,f2,f3⟩:=y.fresh
  refine ⟨fun q=> ?_,fun x c e q=> ?_⟩
  ·obtain ⟨m,⟨oL,_,_,hoL,_⟩,_⟩:=I.loc
   rw [<- q,f1] at hoL
   cases hoL
  ·obtain ⟨v,oc,hoc,_⟩:=I.cell x c e
   rw [q,f1] at hoc
   cases hoc
 refine zgl I5 hN hj (.inl hen) (v:= .ref a) rfl (fun s6 I6 ⟨b,sb,hb⟩=> ?_) (.inr hen)
 refine qaZ (k s6 I6 ⟨hd5,x5.keep fun ob e=>(sb.2 a fun q=> ?_).trans e⟩) (fun _ _ q=>q) fun _ _ q=>q.elim
 rcases hb with hb | hb
 ·exact na.1 (q.trans hb)
 ·exact na.2 en b hb q.symm
end
noncomputable abbrev zlk:List Value:=[.type "ValueError",.type "Exception",.type "BaseException",.type "object"]
theorem zoO {K:W.Frag} {h:Heap} {mg:Str->Option Value} {x:Str} {C:Addr} {bm:List Value} {nid:String} (X:K.In h) (hm:mg x=some (.ref C)) (q:W.excIn K C bm nid=true):OwnCls x C bm nid mg h:=by
 refine ⟨hm,?_⟩
 unfold W.excIn at q
 split at q
 ·rename_i dd cdt sl lk
  split at q
  ·rename_i C2 tl y0 y1 y2 y3 nn y5 hmro hsl
   simp only [qaG,beq_iff_eq,Bool.not_eq_true'] at q
   obtain ⟨⟨⟨⟨⟨rfl,rfl⟩,q3⟩,q4⟩,q5⟩,q6⟩:=q
   obtain ⟨z1,z2,z3,z4,z5,z6,z7,z8,z9,z10,z11⟩:=cdt
   dsimp only at hmro q3 q5 q6
   subst hmro q3
   obtain rfl:sl= #[y0,y1,y2,y3,some (.builtin nn),y5]:=by
    obtain ⟨ll⟩:=sl
    dsimp only at hsl
    rw [hsl]
   exact ⟨tl,z4,z1,z5,z2,z6,z7,z8,z9,z10,dd,y0,y1,y2,y3,y5,_,X _ _ lk,.of_isNs (W.isNs_of_in X q5),W.nsMap_none_of_in X q5 q6,W.tail_of_in X q4⟩
  ·cases q
 ·cases q
noncomputable def Cx.re (X:Cx) (pn:List (Addr×Obj)) (xe:Value->Shared->Prop):Cx:={X with pn:=pn,xe:=xe}
section
variable {X:Cx} {pins pins':List (Addr×Obj)} {σ:St} {H H':Hp} {s s':Shared} {xe:Value->Shared->Prop}
theorem Inv.re (I:Inv X pins σ H s) (xe:Value->Shared->Prop):Inv (X.re (X.pn++pins) xe) [] σ H s:=
 ⟨⟨I.ok.mod,I.ok.kind,I.ok.glob,I.ok.blt,I.ok.above,I.ok.inj,I.ok.has,I.ok.cab,I.ok.hd,I.ok.hx,I.ok.frames,I.ok.stk,I.ok.exf,I.ok.bs,I.ok.bsz,I.ok.noex,I.ok.exfs,I.ok.funs,I.ok.frf⟩,I.os,I.bare,I.base,I.loc,I.cell,I.free,I.freeC,fun p hp=>I.pin p (by simpa [Cx.re] using hp),I.hok,I.len⟩
theorem Inv.unre (I:Inv (X.re (X.pn++pins) xe) pins' σ H s):Inv X pins σ H s:=
 ⟨⟨I.ok.mod,I.ok.kind,I.ok.glob,I.ok.blt,I.ok.above,I.ok.inj,I.ok.has,I.ok.cab,I.ok.hd,I.ok.hx,I.ok.frames,I.ok.stk,I.ok.exf,I.ok.bs,I.ok.bsz,I.ok.noex,I.ok.exfs,I.ok.funs,I.ok.frf⟩,I.os,I.bare,I.base,I.loc,I.cell,I.free,I.freeC,fun p hp=>I.pin p (List.mem_append_left _ hp),I.hok,I.len⟩
theorem SP.unre {D:zmT} {f:Flow} (h:SP (X.re (X.pn++pins) xe) pins' D f s'):SP X pins D f s':=by
 cases f with
 | next=>obtain ⟨σ',H',I,q⟩:=h;exact ⟨σ',H',I.unre,q⟩
 | brk=>obtain ⟨σ',H',I,q⟩:=h;exact ⟨σ',H',I.unre,q⟩
 | cont=>obtain ⟨σ',H',I,q⟩:=h;exact ⟨σ',H',I.unre,q⟩
 | ret u=>obtain ⟨v,σ',H',I,r,q⟩:=h;exact ⟨v,σ',H',I.unre,r,q⟩
end
end L2
namespace L3
open PySem PySem.Spec PyProof.Rows L2
section
variable {X:Cx} {pins:List (Addr×Obj)} {σ:L2.St} {H:Hp} {s:Shared} {a C:Addr} {o:Obj} {vs:Array Value} {head:Value} {c:String} {gk en pe:Str} {p1 p2 p3:Pos} {j k:Nat} {fk:Addr} {fdk:FuncData} {Fk:List D->M D} {Qv:VK} {ι:Io} {h:Hh}
theorem zjS (I:Inv X pins σ H s) (hH:H a=none) (ho:s.heap.get? a=some o) (ob:o.cls= .ref C/\o.dict=none/\o.data= .fields vs/\vs[2]? = some .none/\vs[1]? = some head)
  (h0:X.s₀.heap.get? a=none) (hL:a≠X.env.locals) (hcl: ∀ x c,X.env.cells.lookup x=some c->c≠a) (hp: ∀ p∈X.pn++pins,p.1≠a) (hj:X.N[j]? = some en) (hσ:σ[j]? = some (some (.ref a))) (hen:X.env.scope.names.lookup en=some .local)
  (FH:FnH X.prog X.w X.K X.mg X.base k fk fdk [pe] (zb6 X.K 1 Fk)) (hb:zaH X.K fdk [pe] []) (hg:Gl X gk) (hm:X.mg gk=some (.ref fk)) (kp:W.keepIn X.K (.ref fk)=true) (hr:zc1 k X.A) (hc:zbK X.K c C) (hh:za9 X.K ι H h)
  (q:Fin X.K E0x ι (upd H a (.frz o (.own 0))) (Fk [.exn c] h) fun d ι' H'=> ∀ v,Rel X.K ι' H' d v->Qv v H') (hd:(gk==("__debug__":Str))=false:=by decide) (hd2:(en==("__debug__":Str))=false:=by decide):
  wpAny (model X.prog X.w) (X.A.mark (some (.ref a))) (eval (.Call (.Name gk p1) [.Name en p2] [] p3) X.env) (fun u s8=> ∃ v H8,Inv X pins σ H8 s8/\zby v u/\Qv v H8) (fun _ _=>False) s:=by
 have It:=I.track hH ho h0 hL hcl hp
 have E0':=It.env0
 refine wpAny_Call_Name_kw (Calls.Name_function_global I.ok.kind hg (Calls.loadGlobal_global (by rw [I.ok.glob];exact I.mod.glob.keeps I.bk) hm ?_) hd)
 refine W.callWith_K (h₀:=X.base) I.ok.mod.kin kp ?_
 refine Calls.spliced_cons ?_
 obtain ⟨m,hn,hl⟩:=It.loc
 obtain ⟨u,r,l⟩:=hl j en (.ref a) hj hσ (.inl hen)
 obtain rfl:u=Value.ref a:=r
 have hme:m en=some (.ref a):=by
  rcases l with ⟨_,e⟩ | ⟨e,_⟩
  ·exact e
  ·exfalso
   have e':X.env.scope.names.lookup en=some .cell\/X.env.scope.names.lookup en=some .free:=e
   rw [hen] at e'
   rcases e' with e' | e'<;>cases e'
 refine wpAny_Name (wpAny_loadName_local I.ok.kind hen hn hme ?_) hd2
 refine Calls.spliced_nil ⟨It.kIn,?_⟩
 have e0:zlR X.prog X.w X.K X.mg X.base (X.A.mark (some (.ref a))) X.stack s (upd H a (.frz o (.own 0))):=
  ⟨It.ok.frames,E0'.mod,E0'.bs,E0'.bsz,E0'.funs,E0'.frf,E0'.hok,E0'.bare,.inr ⟨a,o,.ref C,head,vs,rfl,zaV,ob⟩⟩
 have sp:zb6 X.K 1 Fk [.ref a] (upd H a (.frz o (.own 0))) Qv E0:=
  ⟨rfl,ι,h,[.exn c],zat.cons (by simp only [Rel];exact ⟨a,o,C,head,vs,rfl,⟨zaV,hh.nin hH⟩,hc,ob⟩) zat.nil,hh.laid hH,q⟩
 refine wpAny_call (codeAny_mono (FH.run (X.A.mark (some (.ref a))) X.stack s _ ⟨[.ref a],[]⟩ [.ref a] [.ref a] Qv ⟨hr.dp,hr.un⟩ e0 (hb s [.ref a] It.kIn rfl) (.cons rfl .nil) sp) fun r s' hq=> ?_)
 cases r with
 | error e=>exact qa0 hq
 | ok fl=>
  cases fl with
  | ret u=>exact It.after hq
  | next=>exact qa0 hq
  | brk=>exact qa0 hq
  | cont=>exact qa0 hq
end
noncomputable def zge (known:List String) (gb:FS) (Fk:List D->M D):FS:=fun sd h=>match gb sd h with
 | .exc c h1=>if known.contains c=true then (do let d<-noX (Fk [.exn c]);pure (.rt d):M Out) h1 else .bad
 | r=>r
section
variable {X:Cx} {E:XE} {body:List Stmt} {ce en gk pe x:Str} {pce p1 p2 p3 p4 p5 hp pos:Pos} {CE fk:Addr} {fdk:FuncData} {Fk:List D->M D} {gb:FS} {j k i:Nat} {known:List String}
theorem zlS {st:Stmt} {fin:Sd->D->M Out} {gt:FS} (hgt: ∀ sd h,gt sd h=match gb sd h with
      | .exc c h1=>if known.contains c=true then (do let d<-noX (Fk [.exn c]);fin sd d:M Out) h1 else .bad
      | r=>r)
  (z:ze7 X) (hN:X.N.Nodup) (hj:X.N[j]? = some en) (hen:X.env.scope.names.lookup en=some .local) (hg:Gl X ce) (hm:X.mg ce=some (.ref CE))
  (hkn: ∀ c∈known, ∀ C,zbK X.K c C->W.exmOne X.K (.ref C) (.ref CE)=some true) (hd:(ce==("__debug__":Str))=false)
  (hb: ∀ pn xe E',zc3 (CXE X.prog X.w) (X.re pn xe) (znb X.K E')->SSs (X.re pn xe) E' body gb)
  (hst: ∀ (X':Cx) (pins:List (Addr×Obj)) (σ:L2.St) (H:Hp) (s:Shared) (a:Addr) (D0:zmT) (sd:Sd) (Q:Flow->Shared->Prop) (Ef:Value->Shared->Prop) (pn:List (Addr×Obj)) (xe:Value->Shared->Prop),X'=X.re pn xe->Inv X' pins (σ.set j (some (.ref a))) H s->sd.length=X.N.length->
    (∀ Qv:VK,(∀ d ι' H' h',za9 X.K ι' H' h'->Fin X.K E ι' H' (fin sd d h') (zgg X.K D0)-> ∀ v,Rel X.K ι' H' d v->Qv v H')->
      wpAny (model X.prog X.w) (X.A.mark (some (.ref a))) (eval (.Call (.Name gk p1) [.Name en p2] [] p3) X.env) (fun u s8=> ∃ v H8,Inv X' pins (σ.set j (some (.ref a))) H8 s8/\zby v u/\Qv v H8) (fun _ _=>False) s)->
    (∀ f s9,SP X' pins D0 f s9->Q f s9)->
    wpAny (model X.prog X.w) (X.A.mark (some (.ref a))) (execs [st] X.env) (fun f s4=>wpAny (model X.prog X.w) X.A (do bindName X.env en .none;unbindBehindTheSuite X.env en hp) (fun _ s5=>Q f s5) Ef s4) (fun _ _=>False) s)
  (FH:FnH X.prog X.w X.K X.mg X.base k fk fdk [pe] (zb6 X.K 1 Fk)) (hbk:zaH X.K fdk [pe] []) (hgk:Gl X gk) (hmk:X.mg gk=some (.ref fk)) (kp:W.keepIn X.K (.ref fk)=true) (hr:zc1 k X.A) (hd2:(gk==("__debug__":Str))=false) (hd3:(en==("__debug__":Str))=false):
  SS X E (.Try body [.ExceptHandler (some (.Name ce pce)) (some en) [st] hp] [] [] pos) gt:=by
 intro pins s σ H D0 I ⟨ι,h,sd,L,hh,q⟩
 refine wpAny_Try_except ?_
 rw [hgt] at q
 let xe':Value->Shared->Prop:=fun e s₁=>wpAny (model X.prog X.w) X.A (noteFrame e X.env) (fun _ s₂=>wpAny (model X.prog X.w) X.A (setFlight e none) (fun _ s₃=>wpAny (model X.prog X.w) X.A (handleBy e X.env [.ExceptHandler (some (.Name ce pce)) (some en) [st] hp]) (SP X pins D0) X.xe s₃) X.xe s₂) X.xe s₁
 cases hres:gb sd h with
 | bad=>rw [hres] at q;exact qa0 q
 | ok o1 h1=>
  rw [hres] at q
  have run:=hb (X.pn++pins) xe'
   E0x (fun pins' σ' H1 s1 e s2 I1 hx=>by obtain ⟨a,C,H2,_,_,c,C',_,_,w⟩:=hx;exact w.elim) [] s σ H D0 (I.re _) ⟨ι,h,sd,L,hh,by rw [hres];exact q⟩
  refine qaZ run (fun f s1 hs=> ?_) fun _ _ w=>w
  have hs':=hs.unre
  cases f with
  | next=>exact wpAny_execs_nil hs'
  | ret u=>exact hs'
  | brk=>exact hs'
  | cont=>exact hs'
 | exc c h1=>
  rw [hres] at q
  by_cases hk:known.contains c=true
  ·simp only [hk,if_true] at q
   have run:=hb (X.pn++pins) xe'
    (fun c' H'=>c'=c/\ ∃ ι',zbJ ι H ι' H'/\za9 X.K ι' H' h1) (fun pins' σ' H1 s1 e s2 I1 hx=>by
      obtain ⟨a,C,H2,rfl,y,c',C',e1,hc,rfl,ι',st1,hr1⟩:=hx
      cases e1
      have z':ze7 (X.re (X.pn++pins) xe'):=⟨z.stk,z.frm,z.ex⟩
      obtain ⟨f1,f2,f3⟩:=y.fresh
      refine Fl.caught (X:=X.re (X.pn++pins) xe') (b₀:=st) (suite:=[]) (pce:=pce) (pos:=hp) (Q:=SP X pins D0) (E:=X.xe) z' I1 y hN hj hen hg hm (hkn c' (by simpa using hk) C hc) (fun s6 I6 ⟨head,x6⟩=> ?_) hd
      obtain ⟨o,vs,ho,ob⟩:=x6
      have hnil: ∀ b,b∉X.ex:=fun b h=>by rw [z.ex] at h;cases h
      refine hst _ pins' σ' H2 s6 a D0 sd (SP X pins D0) X.xe _ _ rfl I6 (L.1.trans I.len) (fun Qv hQ=> ?_) fun f s9 w=>w.unre
      have hσ:(σ'.set j (some (V.ref a)))[j]? = some (some (.ref a)):=qai (by rw [I1.len];exact (qac.mp hj).1)
      refine zjS (X:=X.re _ _) I6 f2 ho ob ?_ (fun w=> ?_) (fun x c e w=> ?_) (fun p hp w=> ?_) hj hσ hen FH hbk hgk hmk kp hr hc hr1 ?_ hd2 hd3
      · cases w:X.s₀.heap.get? a with
        | none=>exact w
        | some ob=>
          obtain ⟨o',e'⟩:=I1.base.there a ob w (hnil a)
          rw [f1] at e'
          cases e'
      · obtain ⟨m,⟨oL,_,_,hoL,_⟩,_⟩:=I1.loc
        have hoL:s1.heap.get? X.env.locals=some oL:=hoL
        rw [<- show a=X.env.locals from w,f1] at hoL
        cases hoL
      · obtain ⟨v,oc,hoc,_⟩:=I1.cell x c e
        rw [w,f1] at hoc
        cases hoc
      · have e:=(I1.pin p hp).1
        rw [w,f1] at e
        cases e
      · have q1:=Fin.step (st1.trans (hr1.laidS (o:= .frz o (.own 0)) f2)) q
        exact Fin.noX (Fin.bind q1 fun d h' ι8 H8 e8 s8 hr8 q8 v rv=>hQ d ι8 H8 h' hr8 q8 v rv))
    [] s σ H {nx:=fun _ _=>False,rt:=fun _ _=>False} (I.re _) ⟨ι,h,sd,L,hh,by rw [hres];exact fun ι' H' st1 hr1=>⟨rfl,ι',st1,hr1⟩⟩
   refine qaZ run (fun f s1 hs=> ?_) fun _ _ w=>w
   cases f with
   | next=>obtain ⟨_,_,_,w⟩:=hs;exact w.elim
   | brk=>obtain ⟨_,_,_,w⟩:=hs;exact w.elim
   | cont=>obtain ⟨_,_,_,w⟩:=hs;exact w.elim
   | ret u=>obtain ⟨_,_,_,_,_,w⟩:=hs;exact w.elim
  ·simp only [hk] at q
   exact qa0 q
theorem zpC (z:ze7 X) (hN:X.N.Nodup) (hj:X.N[j]? = some en) (hen:X.env.scope.names.lookup en=some .local) (hg:Gl X ce) (hm:X.mg ce=some (.ref CE))
  (hkn: ∀ c∈known, ∀ C,zbK X.K c C->W.exmOne X.K (.ref C) (.ref CE)=some true)
  (hb: ∀ pn xe E',zc3 (CXE X.prog X.w) (X.re pn xe) (znb X.K E')->SSs (X.re pn xe) E' body gb)
  (FH:FnH X.prog X.w X.K X.mg X.base k fk fdk [pe] (zb6 X.K 1 Fk)) (hbk:zaH X.K fdk [pe] []) (hgk:Gl X gk) (hmk:X.mg gk=some (.ref fk)) (kp:W.keepIn X.K (.ref fk)=true) (hr:zc1 k X.A)
  (hd:(ce==("__debug__":Str))=false:=by decide) (hd2:(gk==("__debug__":Str))=false:=by decide) (hd3:(en==("__debug__":Str))=false:=by decide):
  SS X E (.Try body [.ExceptHandler (some (.Name ce pce)) (some en) [.Return (some (.Call (.Name gk p1) [.Name en p2] [] p3)) p4] hp] [] [] pos) (zge known gb Fk):=by
 refine zlS (fin:=fun _ d=>pure (.rt d)) (p1:=p1) (p2:=p2) (p3:=p3) (fun sd h=>rfl) z hN hj hen hg hm hkn hd hb (fun X' pins σ H s a D0 sd Q Ef pn xe hX I6 hl ev hQ=> ?_) FH hbk hgk hmk kp hr hd2 hd3
 subst hX
 refine wpAny_execs_cons ?_
 refine wpAny_Return_some (qaZ (ev (fun v H'=>D0.rt v H') fun d ι' H' h' hr1 q v rv=>Fin.out hr1 q v rv) (fun u s8 hv=> ?_) fun _ _ w=>w)
 obtain ⟨v,H8,I8,rv,qv⟩:=hv
 exact zo3 (X:=X.re pn xe) I8 hN hj hen fun s9 I9=>hQ _ s9 ⟨v,_,H8,I9,rv,qv⟩
noncomputable def zgY (c:String):FS:=fun _ h=> .exc c h
theorem zoI {c:String} {C:Addr} {nid:String} {msg:Str} {jj:Nat} {np cpos:Pos} (hc:X.calm=true) (hp:zog X E) (hX:W.excIn X.K C zlk "ValueError.__new__"=true) (hcl:zbK X.K c C) (hg:Gl X (c:Str)) (hd:((c:Str)==("__debug__":Str))=false:=by decide):
  SS X E (.Raise (some (.Call (.Name (c:Str) np) [.Constant (.str msg) jj p2] [] cpos)) none pos) (zgY c):=by
 intro pins s σ H D0 I ⟨ι,h,sd,L,hh,q⟩
 have hE:E c H:=q ι H (zbJ.refl _ _) hh
 have hm:X.mg (c:Str)=some (.ref C):=W.mg_of I.ok.mod.kin I.ok.mod.glob hcl
 obtain ⟨tl,N,nm,qq,bs,hdct,sn,sub,ab,col,dd,k0,k1,k2,k3,k5,mN,hC,hNs,hni,T⟩:=(zoO (x:=(c:Str)) I.ok.mod.kin hm hX).obj
 refine wpAny_Raise_call_subT (C:=C) (nm:=nm) (q:=qq) (N:=N) (bs:=bs) (bm:=tl) (hdct:=hdct) (sn:=sn) (sub:=sub) (ab:=ab) (col:=col) (dd:=dd) (k0:=k0) (k1:=k1) (k2:=k2) (k3:=k3) (k5:=k5)
  PySem.F.excBase_ValueError (mN:=mN) (T.hasType PySem.F.excBase_ValueError.hasBase) (I.ok.hd hc) rfl hni (zhW I hg hm ⟨rfl,?_⟩ hd)
 refine Calls.evalArgs_plain (x:=eval (.Constant (.str msg) jj p2) X.env) (rest:=[]) ?_
 refine Calls.spliced_cons (thn (zng pins s σ H (fun v H1=>H1=H) I rfl) fun u s1 hu=> ?_)
 obtain ⟨v,H1,I1,rv,rfl⟩:=hu
 refine Calls.spliced_nil ⟨rfl,by show 1<=sizeLine;decide,I1.bk _ _ hC,hNs.keeps I1.bk,T.keeps I1.bk,fun h' e m=> ?_⟩
 exact hp pins σ H1 s1 h' e C c _ I1 hcl m hE
end
end L3
namespace L3
open PySem PySem.W
theorem zgA {K:Frag} {C:Addr} {name:Str} {a g:Value} (hc:(clsIn K C).isSome=true) (ha:findIn K (.ref C) name=some (some a)) (hg:specialIn K a "__get__"=some (some g)) (ht:takesIn K a=some true):findObj K C none name=some (.bind g a):=by
 obtain ⟨cd,hc⟩:=Option.isSome_iff_exists.mp hc
 unfold findObj
 rw [hc,Option.bind_some,ha,Option.bind_some]
 simp [hg,ht]
section
variable {prog:Program} {w:World} {A:Around} {E:Value->Shared->Prop} {s:Shared} {K:Frag} {x D:Addr} {ox:Obj}
theorem zlu {Q:Option Value->Shared->Prop} (X:K.In s.heap) (I:InstAt s.heap x ox D none) (hc:(clsIn K D).isSome=true) (hga:findIn K (.ref D) "__getattribute__"=some (some (.builtin "BaseException.__getattribute__"))) (hk:findIn K (.ref D) "__getattr__"=some none)
  (ha:findIn K (.ref D) "__class__"=some (some (.builtin "object.__class__"))) (hn:specialIn K (.builtin "object.__class__") "__get__"=some (some (.builtin "getset_descriptor.__get__"))) (htk:takesIn K (.builtin "object.__class__")=some true)
  (hm:mroIn K D (.type "object")=some true) (hmB:mroIn K D (.type "BaseException")=some true) (h:Q (some (.ref D)) {s with toks:=s.toks+1}):wpAny (model prog w) A (getAttr? (.ref x) "__class__") Q E s:=by
 obtain ⟨hh,g,d,t,os⟩:=s
 have L0:=I.type (M:=model prog w)
 have L1:=looks_findIn (M:=model prog w) X hga
 have L2:=looks_findIn (M:=model prog w) X hk
 have L3:=looks_find (M:=model prog w) X I (zgA hc ha hn htk)
 have LB:Looks (model prog w) hh (isInstance (.ref x) (.type "BaseException")) true:=L0.andThen (looks_mroIn X hmB)
 have f3:=PySem.F.attr_ValueError.ga.bind (.ref x)
 have hx2:(Value.builtin "BaseException.__getattribute__"==Value.builtin "object.__getattribute__")=false:=by decide +kernel
 unfold getAttr? getAttrBy? getAttrBy
 refine qaW (wpAny_mkText (qaW (wpAny_attempt (qaO (qaW (L0.at (qaW (L1.at ?_))))))))
 dsimp only
 rw [hx2,Bool.and_false,qa5 Bool.false_ne_true]
 unfold getAttrByItsOwn hookBefore
 rw [qa4 (show onTheHeap (Value.ref D)=true from rfl)]
 refine qaW (L2.at ?_)
 refine qaW (wpAny_attempt (qaO ?_))
 unfold callGetattribute
 rw [qa5 (by simp)]
 unfold boundAndCalled
 rw [f3]
 refine qaW (qaX ?_)
 refine wpAny_call (codeAny_call_builtin PySem.F.attr_ValueError.ga.plain PySem.F.entry_bexc_ga ?_)
 have kd:builtinKind "BaseException.__getattribute__"=some .slot:=by decide +kernel
 have sp:splitId "BaseException.__getattribute__"=some ("BaseException","__getattribute__"):=by decide +kernel
 have ag:=PySem.F.args_bexc_ga (.ref x) (.str "__class__" t)
 simp only [checkBuiltinCall,kd,sp]
 refine qaW (LB.at ?_)
 rw [qa5 (by decide)]
 refine wpAny_of_eq (a:=()) ag ?_
 unfold Builtin.«object.__getattribute__»
 refine qaW (qaX ?_)
 refine qaW (qaX ?_)
 refine qaW (L0.at ?_)
 refine qaW (L3.at ?_)
 dsimp only
 unfold Builtin.ObjectAttr.bindTo
 dsimp only
 refine qaW (qaO (wpAny_call (class_get (s:=⟨hh,g,d,t+1,os⟩) X I hm ?_)))
 refine qaX ?_
 dsimp only
 refine wpAny_of_eq (a:=Value.ref D) rfl ?_
 exact qaX h
end
end L3
namespace L3
open PySem PySem.Spec PyProof.Rows L2
noncomputable def kxb (K:W.Frag) (C:Addr):Bool:=(W.clsIn K C).isSome && W.findIn K (.ref C) "__getattribute__"==some (some (.builtin "BaseException.__getattribute__")) && W.findIn K (.ref C) "__getattr__"==some none && W.findIn K (.ref C) "__class__"==some (some (.builtin "object.__class__"))
 && W.specialIn K (.builtin "object.__class__") "__get__"==some (some (.builtin "getset_descriptor.__get__")) && W.takesIn K (.builtin "object.__class__")==some true && W.mroIn K C (.type "object")==some true && W.mroIn K C (.type "BaseException")==some true
theorem zlQ {K:W.Frag} {x C:Addr} {ox:Obj} (h:kxb K C=true):W.KitX K (.ref x) (.ref C) (fun h=>W.InstAt h x ox C none):=by
 unfold kxb at h
 simp only [qaG,beq_iff_eq] at h
 obtain ⟨⟨⟨⟨⟨⟨⟨h1,h2⟩,h3⟩,h4⟩,h5⟩,h6⟩,h7⟩,h8⟩:=h
 refine ⟨fun _ _ _ I=>I.type,fun M hp X _=> ?_,fun hp tp dd its n sl X htp=> ?_,fun X I k=>zlu X I h1 h2 h3 h4 h5 h6 h7 h8 k⟩
 ·obtain ⟨cd,hc⟩:=Option.isSome_iff_exists.mp h1
  unfold W.clsIn at hc
  split at hc
  ·rename_i lk
   intro A' Q' E' s' k q
   unfold isType loadHead
   exact qaW (wpAny_loadPart (k _ _ (X _ _ lk)) (qaX q))
  ·cases hc
 ·refine Bool.eq_false_iff.mpr fun q=> ?_
  have e:C=tp:=Value.ref.inj (beq_iff_eq.mp q)
  subst e
  obtain ⟨cd,hc⟩:=Option.isSome_iff_exists.mp h1
  unfold W.clsIn at hc
  split at hc
  ·rename_i lk
   have z:=(X _ _ lk).symm.trans htp
   cases z
  ·cases hc
structure zsu (K:W.Frag) (CE:Addr) (names:List String) (c:String) (C:Addr):Prop where
 exc:W.excIn K C zlk "ValueError.__new__"=true
 cov:W.exmOne K (.ref C) (.ref CE)=some true
 kx:kxb K C=true
 ve:W.kitOne K (.ref C) (.type "ValueError")=some true
 one: ∀ c'∈names, ∀ C',zbK K c' C'->W.kitOne K (.ref C) (.ref C')=some (c==c')
def zlz (K:W.Frag) (CE:Addr) (names:List String):Prop:= ∀ c∈names, ∀ C,zbK K c C->zsu K CE names c C
noncomputable def zjz (K:W.Frag) (CE:Addr) (tab:List (String×Addr)):Bool:=tab.all fun p=>W.nsIn K mainGlobals (p.1:Str)==some (some (.ref p.2)) && W.excIn K p.2 zlk "ValueError.__new__" && W.exmOne K (.ref p.2) (.ref CE)==some true && kxb K p.2 && W.kitOne K (.ref p.2) (.type "ValueError")==some true
 && tab.all fun r=>W.kitOne K (.ref p.2) (.ref r.2)==some (p.1==r.1)
theorem zlz.of {K:W.Frag} {CE:Addr} {tab:List (String×Addr)} (h:zjz K CE tab=true):zlz K CE (tab.map (·.1)):=by
 unfold zjz at h
 rw [List.all_eq_true] at h
 have key: ∀ c∈tab.map (·.1), ∀ C,zbK K c C->(c,C)∈tab:=fun c hc C hC=>by
  obtain ⟨p,hp,rfl⟩:=qaU.mp hc
  have h1:=h p hp
  simp only [qaG,beq_iff_eq] at h1
  have e:=h1.1.1.1.1.1
  unfold zbK at hC
  rw [hC] at e
  cases e
  exact hp
 intro c hc C hC
 have h1:=h _ (key c hc C hC)
 simp only [qaG,beq_iff_eq,List.all_eq_true] at h1
 obtain ⟨⟨⟨⟨⟨a1,a2⟩,a3⟩,a4⟩,a5⟩,a6⟩:=h1
 exact ⟨a2,a3,a4,a5,fun c' hc' C' hC'=>a6 _ (key c' hc' C' hC')⟩
theorem zlz.known {K:W.Frag} {CE:Addr} {names:List String} (h:zlz K CE names): ∀ c∈names, ∀ C,zbK K c C->W.exmOne K (.ref C) (.ref CE)=some true:=fun c hc C hC=>(h c hc C hC).cov
noncomputable def zjq (names:List String) (T:String):D->M D
 | .exn c=>if names.contains c && names.contains T then pure (.bl (c==T)) else M.bad
 | _=>M.bad
noncomputable def zpz (names:List String):D->M D
 | .exn c=>if names.contains c then pure (.bl true) else M.bad
 | _=>M.bad
section
variable {X:Cx} {E:XE}
theorem ziI:zaM X (.builtin "isinstance") (fun xs H Q=> ∃ a o C vs x u b,xs=[.ref a,x]/\H a=some (.frz o (.own 0))/\(o.cls= .ref C/\o.dict=none/\o.data= .fields vs)/\kxb X.K C=true/\zby x u/\(∀ u',zby x u'->u'=u)/\W.kitOne X.K (.ref C) u=some b/\Q (.bl b) H):=by
 intro pins s σ H xs us Q I r h
 obtain ⟨a,o,C,vs,x,u,b,rfl,hH,⟨o1,o2,o3⟩,hk,hu,hu2,e,q⟩:=h
 cases r with
 | cons r1 r2=>
  cases r2 with
  | cons r3 r4=>
   cases r4
   cases r1
   have:=hu2 _ r3
   subst this
   have ho:=(I.hok a _ hH).1
   refine W.kia_one (zlQ (x:=a) (ox:=o) hk) I.kIn ⟨ho,o1,by unfold W.notCls;rw [o3],by rw [o2];trivial⟩ e (fun z=>nomatch z) fun tk=>⟨.bl b,H,I.tok tk,rfl,q⟩
variable {a:Expr} {p1 p2 pos:Pos} {fa:FE} {CE CC:Addr} {names:List String}
theorem zeU {c':String} (hx:zlz X.K CE names) (hc':names.contains c'=true) (hcl:zbK X.K c' CC) (hm:X.mg "isinstance"=none) (hmC:X.mg (c':Str)=some (.ref CC)) (ha:SE X E a fa) (hg:Gl X "isinstance":=by rfl) (hgC:Gl X (c':Str):=by rfl)
  (hd:((c':Str)==("__debug__":Str))=false:=by decide)
  (h1:starEach [a,.Name (c':Str) p2] X.env=(false,eval a X.env)::starEach [.Name (c':Str) p2] X.env:=by rfl) (h2:starEach [.Name (c':Str) p2] X.env=[(false,eval (.Name (c':Str) p2) X.env)]:=by rfl)
  (hpl:(backTo pos (starEach [.Name (c':Str) p2] X.env)).any (·.1)=false:=by rfl):
  SE X E (.Call (.Name "isinstance" p1) [a,.Name (c':Str) p2] [] pos) (cUn (zjq names c') fa):=by
 refine PE.imp (zdS ziI hg hm PyProof.Rows.boot_isinstance (zbt ha (zbt (zhY (v:= .ref CC) hgC hmC rfl hd) zcV h2) h1) (he:=h1) (hpl:=hpl)) fun σ H Q ⟨ι,h,sd,L,hh,q⟩=>⟨ι,h,sd,L,hh,Fin.bind q fun d h1 ι1 H1 e1 s1 hr1 q1 v rv=> ?_⟩
 cases d with
 | exn c=>
  obtain ⟨hg1,q2⟩:=Fin.guard (show Fin X.K E ι1 H1 ((if (names.contains c && names.contains c')=true then (pure (.bl (c==c')):M D) else M.bad) h1) _ from q1)
  rw [qaG] at hg1
  simp only [Rel] at rv
  obtain ⟨b,o,C,head,vs,rfl,⟨r1,_⟩,r2,r3,r4,r5,_⟩:=rv
  have ok:=hx c (by simpa using hg1.1) C r2
  exact ⟨b,o,C,vs,.ref CC,.ref CC,c==c',rfl,r1,⟨r3,r4,r5⟩,ok.kx,rfl,fun u' z=>z,ok.one c' (by simpa using hc') CC hcl,Fin.out hr1 q2 _ (by simp [Rel])⟩
 | _=>exact qa0 q1
theorem zrm (hx:zlz X.K CE names) (hm:X.mg "isinstance"=none) (hmT:X.mg "ValueError"=none) (ha:SE X E a fa) (hg:Gl X "isinstance":=by rfl) (hgT:Gl X "ValueError":=by rfl)
  (h1:starEach [a,.Name "ValueError" p2] X.env=(false,eval a X.env)::starEach [.Name "ValueError" p2] X.env:=by rfl) (h2:starEach [.Name "ValueError" p2] X.env=[(false,eval (.Name "ValueError" p2) X.env)]:=by rfl)
  (hpl:(backTo pos (starEach [.Name "ValueError" p2] X.env)).any (·.1)=false:=by rfl):
  SE X E (.Call (.Name "isinstance" p1) [a,.Name "ValueError" p2] [] pos) (cUn (zpz names) fa):=by
 refine PE.imp (zdS ziI hg hm PyProof.Rows.boot_isinstance (zbt ha (zbt (zk0 (v:= .ty "ValueError") hgT hmT (by decide +kernel) rfl) zcV h2) h1) (he:=h1) (hpl:=hpl)) fun σ H Q ⟨ι,h,sd,L,hh,q⟩=>⟨ι,h,sd,L,hh,Fin.bind q fun d h1 ι1 H1 e1 s1 hr1 q1 v rv=> ?_⟩
 cases d with
 | exn c=>
  obtain ⟨hg1,q2⟩:=Fin.guard (show Fin X.K E ι1 H1 ((if names.contains c=true then (pure (.bl true):M D) else M.bad) h1) _ from q1)
  simp only [Rel] at rv
  obtain ⟨b,o,C,head,vs,rfl,⟨r1,_⟩,r2,r3,r4,r5,_⟩:=rv
  have ok:=hx c (by simpa using hg1) C r2
  exact ⟨b,o,C,vs,.ty "ValueError",.type "ValueError",true,rfl,r1,⟨r3,r4,r5⟩,ok.kx,rfl,fun u' z=>z,ok.ve,Fin.out hr1 q2 _ (by simp [Rel])⟩
 | _=>exact qa0 q1
end
end L3
namespace L3
open PySem
section
variable {prog:Program} {w:World} {A:Around} {E:Value->Shared->Prop} {s:Shared}
theorem zl1 {l:Addr} {xs:Array (Int×Tok)} {Q:Value->Shared->Prop} (hh:zlv A s.heap) (hl:s.heap.IsList l (intItems xs))
  (k: ∀ h' tk t',(∀ b o,s.heap.get? b=some o->h'.get? b=some o)->Q (.int (preSum (numAt xs) xs.size) t') {s with heap:=h',toks:=tk}):wpAny (model prog w) A (call (.builtin "sum") [.ref l]) Q E s:=by
 refine call_sum_walkG (iter_intList hl fun s₂ e st hfp hlI=> ?_)
 subst e
 rcases hh with hh | ⟨ha,cls,head,hh,hX⟩
 ·refine ⟨_,_,_,_,_,_,numAt xs,rfl,Walks.list (A:=A.in1) hh _ l hlI (intItems xs),st,hfp,(fun _ _=>intItems_at),fun h' tk t' hk=> ?_⟩
  simpa [intItems] using k h' tk t' (old_kept hk)
 ·obtain ⟨ob,vs,x1,x2⟩:=id hX
  have hX2:=hX.keep (h':=s.heap.push {cls:= .type "list_iterator",data:= .fields #[.ref l,.int 0 0]}) fun o e=>qag _ e
  refine ⟨_,_,_,_,_,_,numAt xs,rfl,zi4 (A:=A.in1) (ha:=ha) (cls:=cls) (head:=head) hh _ l hlI (qaR (qaQ x1)) (intItems xs),⟨st.1,st.2,hX2⟩,fun b hb=> ?_,(fun _ _=>intItems_at),fun h' tk t' hk=> ?_⟩
  ·simp only [qaP,qaF,or_false] at hb
   rcases hb with z | z | z
   ·exact hfp b (by simp [z])
   ·exact hfp b (by simp [z])
   ·rw [z]
    show ha<(s.heap.push _).objs.size
    rw [qaL]
    exact Nat.lt_succ_of_lt (qaQ x1)
  ·simpa [intItems] using k h' tk t' (old_kept hk)
end
end L3
namespace L2
open PySem PySem.Spec PyProof.Rows L3
section
variable {X:Cx}
theorem zjn:MtM X "list.extend" (fun x vs H Q=> ∃ l b xs zs,x= .ref l/\vs=[.ref b]/\H l=some (.lst xs)/\SqT X.K H b zs/\xs.length+zs.length<=sizeLine/\Q .non (upd H l (.lst (xs++zs)))):=by
 intro pins s σ H x vs v us Q I rx rv h
 obtain ⟨l,b,xs,zs,rfl,rfl,hH,hB,hz,q⟩:=h
 cases rx
 obtain ⟨u,rfl,ru⟩:=zd5 rv
 cases ru
 obtain ⟨z,its,n,r,hl,e⟩:=I.lstM hH
 obtain ⟨its2,r2,⟨ob,e2,c2,n2,d2⟩,z2⟩:=I.tuple hB
 have l2:=r2.length
 have hsz:its.toArray.size+its2.toArray.size<=sizeLine:=by rw [qaA,qaA];omega
 refine wpAny_call (codeAny_call_builtin F.slot_list_extend.plain F.entry_list_extend (F.slot_list_extend.check _ _ _ _ _ _ _ _ ⟨_,e,rfl⟩ (F.args_list_extend_2 _ _) ?_))
 unfold Builtin.«list.extend»
 refine qaW (qaX ?_)
 unfold Builtin.List.listExtendWith
 refine qaW (wpAny_typeOf ⟨ob,e2,c2⟩ ?_)
 have h1:(Builtin.List.listSameRef (.ref l) (.ref b) || Value.type "tuple"==Value.type "list" || Value.type "tuple"==Value.type "tuple")=true:=by simp
 simp only [h1,if_true]
 unfold Builtin.List.listItems
 refine qaW (qaW (wpAny_seqItems e2 d2 (qaX ?_)))
 refine qaW (qaW (wpAny_seqItems e rfl (qaX ?_)))
 rw [qa5 (by rw [zmg hsz,Bool.and_false];exact Bool.false_ne_true)]
 refine qaW (wpAny_updateSeq e rfl ?_ (by rw [qaA];omega))
 refine qaX ?_
 refine ⟨.non,_,I.lset (its':=its++its2) hH e (by simp) (r.append r2) ?_,rfl,q⟩
 rw [qav]
 omega
theorem zjM:zaM X (.builtin "sum") (fun xs H Q=> ∃ (a:Addr) (ns:List Int),xs=[.ref a]/\SqL X.K H a (ns.map V.int)/\Q (.int ns.sum) H):=by
 intro pins s σ H xs us Q I r h
 obtain ⟨a,ns,rfl,hq,q⟩:=h
 obtain ⟨u,rfl,rx⟩:=zd5 r
 cases rx
 obtain ⟨its,r',pl,hz⟩:=I.list hq
 have hi:=zbU r'
 obtain ⟨ys,hy⟩:=hi.allInts.items
 have hl:s.heap.IsList a (intItems ys):=hy▸pl.isList
 refine zl1 I.hand hl fun h' tk t' hk=> ?_
 have e1:ns=ys.toList.map (·.1):=by
  rw [<- nums_intItems, <-hy]
  exact (show numsOf its.toArray.toList=ns from hi.numsOf).symm
 have e2:preSum (numAt ys) ys.size=ns.sum:=by rw [preSum_eq,List.take_of_length_le (by simp),e1]
 rw [e2]
 exact ⟨.int ns.sum,H,I.grown (s':={s with heap:=h',toks:=tk}) rfl rfl hk,⟨t',rfl⟩,q⟩
theorem zfu: ∀ {bs:List Bool} {its:List Value},za2 (bs.map V.bl) its->its=bs.map Value.bool
 | [],_,h=>by cases h;rfl
 | b::bs,_,h=>by
  cases h with
  | cons r t=>cases r;rw [zfu t];rfl
theorem zjV:MtR X "list.index" (fun x vs H Q=> ∃ (l:Addr) (bs:List Bool) (j:Nat),x= .ref l/\vs=[.bl true]/\SqL X.K H l (bs.map V.bl)/\bs[j]? = some true/\(∀ m,m<j->bs[m]? = some false)/\Q (.int (j:Int)) H):=by
 intro pins s σ H x vs v us Q I rx rv h
 obtain ⟨l,bs,j,rfl,rfl,hq,hj,hno,q⟩:=h
 cases rx
 obtain ⟨u,rfl,ru⟩:=zd5 rv
 cases ru
 obtain ⟨its,r,pl,hz⟩:=I.list hq
 have eit:=zfu r
 subst eit
 obtain ⟨ob,e1,c1,n1,d1⟩:=pl.isList
 obtain ⟨cc,dd,dt,sl⟩:=ob
 dsimp only at c1 d1
 subst c1 d1
 have hlt:j<bs.length:=(qac.mp hj).1
 rw [qaH] at hz
 have sz:(j:Int)<2^63 - 1:=by
  have:sizeLine<2^40:=by decide
  omega
 refine call_meets F.slot_list_index ⟨_,e1,rfl⟩ F.entry_list_index (F.args_list_index_2 _ _)
  (PySem.SeqAt.list_indexAt l _ n1 dd sl (.bool true) (fun v=>match v with | .bool b=>b | _=>false) j (by simpa using hlt) sz ?_ ?_) ⟨e1,fun y hy=> ?_,⟨.int j,H,I.tok _,⟨_,rfl⟩,q⟩⟩
 ·have:=(qac.mp hj).2
  simp [this]
 ·intro m hm hmj
  have:=(qac.mp (hno m hmj)).2
  simp [this]
 ·obtain ⟨b,_,rfl⟩:=qaU.mp (List.mem_toArray.mp hy)
  have:=PySem.SeqAt.EqAt.bool_bool (A:=X.A.in1) (s:=s) b true
  simpa using this
end
end L2
namespace L3
open PySem PySem.Spec PyProof.Rows L2
noncomputable def ztv (f:FE):FE:=fun sd=>noX (f sd)
noncomputable def zrW (f:FS):FS:=fun sd=>noX (f sd)
theorem znQ {X:Cx}:zc3 (CXE X.prog X.w) X (znb X.K E0x):=fun _ _ _ _ _ _ _ h=>by
 obtain ⟨_,_,_,_,_,_,_,_,_,z⟩:=h
 exact z.elim
section
variable {X:Cx} {E:XE} {a e o:Expr} {es:List Expr} {pos p cpos apos:Pos} {f fo fe fa:FE} {fs:FA} {x:Str}
theorem zeY {k:Nat} {g:Addr} {fd:FuncData} {ps:List Str} {n:Nat} {F:List D->M D} (G:zbw X.prog X.w X.K X.mg X.base (CXE X.prog X.w) k g fd ps (spE X.K n F)) (hx:zc3 (CXE X.prog X.w) X (znb X.K E)) (hr:zds k X.A) (hm:X.mg x=some (.ref g)) (hk:W.keepIn X.K (.ref g)=true) (hb:zaH X.K fd ps [])
  (ha:SA X E (e::es) fs) (hg:Gl X x:=by rfl) (hdb:(x==("__debug__":Str))=false:=by decide) (he:starEach (e::es) X.env=(false,eval e X.env)::starEach es X.env:=by rfl) (hpl:(backTo pos (starEach es X.env)).any (·.1)=false:=by rfl):
  SE X E (.Call (.Name x p) (e::es) [] pos) (zaF (zau n F) fs):=zmh G hx hr hg hm hk hb ha hdb he hpl
theorem zf6 {k:Nat} {g:Addr} {fd:FuncData} {ps:List Str} {n:Nat} {F:List D->M D} (G:zbw X.prog X.w X.K X.mg X.base CX0 k g fd ps (zb6 X.K n F)) (hr:zds k X.A) (hm:X.mg x=some (.ref g)) (hk:W.keepIn X.K (.ref g)=true) (hb:zaH X.K fd ps [])
  (ha:SA X E (e::es) fs) (hg:Gl X x:=by rfl) (hdb:(x==("__debug__":Str))=false:=by decide) (he:starEach (e::es) X.env=(false,eval e X.env)::starEach es X.env:=by rfl) (hpl:(backTo pos (starEach es X.env)).any (·.1)=false:=by rfl):
  SE X E (.Call (.Name x p) (e::es) [] pos) (zaF (zau n fun ds=>noX (F ds)) fs):=zmr G hr hg hm hk hb ha hdb he hpl
theorem zpy {st:Stmt} {g:FS} (h:SS X.nox E0x st g):SS X E st (zrW g):=by
 intro pins s σ H D0 I ⟨ι,h2,sd,L,hh,q⟩
 exact qaZ (h pins s σ H D0 (I.wish _) ⟨ι,h2,sd,L,hh,Fin.noX q⟩) (fun _ _ q=>q.unwish) fun _ _ z=>qa0 z
theorem zle {c:String} {C CE:Addr} {names:List String} {msg:Str} {jj:Nat} {np p2:Pos} (hc:X.calm=true) (hp:zog X E) (hX:zlz X.K CE names) (hn:names.contains c=true) (hcl:zbK X.K c C) (hg:Gl X (c:Str):=by rfl) (hd:((c:Str)==("__debug__":Str))=false:=by decide):
  SS X E (.Raise (some (.Call (.Name (c:Str) np) [.Constant (.str msg) jj p2] [] cpos)) none pos) (zgY c):=zoI (nid:="") hc hp (hX c (by simpa using hn) C hcl).exc hcl hg hd
theorem zof {scope:Scope} {N:List Str} {src:List (Option Nat)} {tg iter elt:Expr} {ifs:List Expr} {fi:FA} {g:D->Sd->M Sd} {tc:FT} {te:FE} (B:BOk X scope N src) (hk:zaQ g src) (hi:SI X E tg iter fi)
  (hg: ∀ s H fp,SG (cxB X scope N s H fp) E tg g) (ht: ∀ s H fp,SCs (cxB X scope N s H fp) E ifs tc) (he: ∀ s H fp,SE (cxB X scope N s H fp) E elt te)
  (hs: ∀ x,foldedSetIterable iter X.env x=pure x:=by intro _;rfl):SE X E (.ListComp elt [⟨tg,iter,ifs,0⟩] scope pos) (zaI fi g tc te src):=zjY B hk hi hg ht he hs
noncomputable def zov:List D->M D
 | [.int i]=>pure (.int i)
 | [.bl b]=>pure (.int (if b then 1 else 0))
 | _=>M.bad
theorem zje:zaM X (.type "int") (zhs X.K E zov):=by
 refine zaM.imp zkU fun xs H Q ⟨ι,h,ds,rl,hr,q⟩=> ?_
 unfold zov at q
 split at q
 ·simp only [zat,Rel] at rl
  obtain ⟨v,r,rfl,rfl,rfl⟩:=rl
  exact .inl ⟨_,rfl,Fin.out hr q _ (by simp [Rel])⟩
 ·simp only [zat,Rel] at rl
  obtain ⟨v,r,rfl,rfl,rfl⟩:=rl
  exact .inr ⟨_,rfl,Fin.out hr q _ (by simp [Rel])⟩
 ·exact qa0 q
theorem zi7:zaM X (.builtin "sum") (zhs X.K E zp8):=by
 refine zaM.imp zjM fun xs H Q ⟨ι,h,ds,rl,hr,q⟩=> ?_
 obtain ⟨d,v,e,r,q⟩:=zcD rl q
 cases d with
 | lst ds=>
  obtain ⟨a,vs,e',h1,h2⟩:=zdG r
  obtain ⟨ns,en,q⟩:=Fin.ofOb q
  have:=zcC h2 en
  subst this
  exact ⟨a,ns,by rw [e,e'],h1,Fin.out hr q _ (by simp [Rel])⟩
 | _=>exact qa0 q
noncomputable def zqU:D->M D
 | .lst ds=>do
  let bs<-ofO (zl0 ds)
  let j<-ofO (bs.findIdx? id)
  pure (.int j)
 | _=>M.bad
theorem zoE {jj:Nat} {p2:Pos} (ho:SE X E o fo)
  (hbase:attributeBase o "index" X.env (eval o X.env)=eval o X.env:=by rfl)
  (hfew:((backTo cpos (starEach [.Constant (.bool true) jj p2] X.env)).all (fun x=> !x.1) && (backToKw cpos (keywordEach [] X.env)).all (fun x=>x.1.isSome)
    && decide (([.Constant (.bool true) jj p2]:List Expr).length+([]:List Keyword).length+(if ([]:List Keyword).isEmpty then 0 else 1)<30))=true:=by rfl)
  (hline:(apos.endLine==cpos.line)=true:=by rfl) (hs:starEach [.Constant (.bool true) jj p2] X.env=(false,eval (.Constant (.bool true) jj p2) X.env)::starEach [] X.env:=by rfl) (hplain:(backTo cpos (starEach [] X.env)).any (·.1)=false:=by rfl):
  SE X E (.Call (.Attribute o "index" apos) [.Constant (.bool true) jj p2] [] cpos) (cUn zqU fo):=by
 refine PE.imp (zn6 PySem.F.plainAttrs_list PySem.F.slot_list_index PySem.F.type_list_index zjV ho (zbt zp5 zcV hs) hbase hfew hline hs hplain) fun σ H Q ⟨ι,h,sd,L,hh,q⟩=>⟨ι,h,sd,L,hh,Fin.bind q fun d h1 ι1 H1 e1 s1 hr1 q1 v rv=> ?_⟩
 cases d with
 | lst ds=>
  obtain ⟨a,vs,e',h1',h2⟩:=zdG rv
  obtain ⟨bs,en,q2⟩:=Fin.ofOb q1
  obtain ⟨j,ej,q3⟩:=Fin.ofOb q2
  have:=zf3 h2 en
  subst this
  subst e'
  refine ⟨.inl ⟨rfl,_,h1'⟩,a,bs,j,rfl,rfl,h1',?_,fun m hm=> ?_,Fin.out hr1 q3 _ (by simp [Rel])⟩
  ·obtain ⟨h3,h4,_⟩:=List.findIdx?_eq_some_iff_getElem.mp ej
   rw [qaf h3]
   simpa using h4
  ·obtain ⟨h3,h4,h5⟩:=List.findIdx?_eq_some_iff_getElem.mp ej
   rw [qaf (by omega)]
   simpa using h5 m hm
 | _=>exact qa0 q1
noncomputable def zdz (x y:D):M D:=match x,y with
 | .cel n,.tup zs=>do
  let ds<-zan n
  fits (ds.length+zs.length)
  zbz n (ds++zs)
  pure .non
 | _,_=>M.bad
noncomputable def zfE (fo fe:FE):FE:=fun sd=>do
 let x<-fo sd
 zda x
 let y<-fe sd
 zdz x y
theorem zh1 (ho:SE X E o fo) (he:SE X E e fe)
  (hbase:attributeBase o "extend" X.env (eval o X.env)=eval o X.env:=by rfl)
  (hfew:((backTo cpos (starEach [e] X.env)).all (fun x=> !x.1) && (backToKw cpos (keywordEach [] X.env)).all (fun x=>x.1.isSome)
    && decide (([e]:List Expr).length+([]:List Keyword).length+(if ([]:List Keyword).isEmpty then 0 else 1)<30))=true:=by rfl)
  (hline:(apos.endLine==cpos.line)=true:=by rfl) (hs:starEach [e] X.env=(false,eval e X.env)::starEach [] X.env:=by rfl) (hplain:(backTo cpos (starEach [] X.env)).any (·.1)=false:=by rfl):
  SE X E (.Call (.Attribute o "extend" apos) [e] [] cpos) (zfE fo fe):=by
 refine PE.imp (zn6 PySem.F.plainAttrs_list PySem.F.slot_list_extend PySem.F.type_list_extend zjn ho (zbt he zcV hs) hbase hfew hline hs hplain) fun σ H Q ⟨ι,h,sd,L,hh,q⟩=>⟨ι,h,sd,L,hh,Fin.bind q fun d h1 ι1 H1 e1 s1 hr1 q1 v rv=> ?_⟩
 cases d with
 | cel n=>
  have q2:Fin X.K E ι1 H1 ((zan n>>=fun _=>fe sd>>=fun y=>zdz (.cel n) y) h1) (fun d ι' H'=> ∀ v,Rel X.K ι' H' d v->Q v H'):=by
   have ee:(zda (.cel n)>>=fun _=>fe sd>>=fun y=>zdz (.cel n) y:M D)=(zan n>>=fun _=>fe sd>>=fun y=>zdz (.cel n) y):=by
    show ((zan n>>=fun _=>pure ())>>=fun _=>fe sd>>=fun y=>zdz (.cel n) y)=_
    simp only [bind_assoc,pure_bind]
   rw [<- ee]
   exact q1
  obtain ⟨ds,e2,q3⟩:=zgb q2
  obtain ⟨a,vs,rfl,hn,hH,rl⟩:=hr1.read rv e2
  refine ⟨.inl ⟨rfl,vs,SqL.of hH⟩,ι1,h1,sd,L.step s1,hr1,Fin.bind q3 fun y h3 ι3 H3 e3 s3 hr3 q4 w rw'=> ?_⟩
  have rv3:=rv.step s3
  cases y with
  | tup zs=>
   have q5:Fin X.K E ι3 H3 ((zan n>>=fun ds=>fits (ds.length+zs.length)>>=fun _=>zbz n (ds++zs)>>=fun _=>pure D.non) h3) (fun d ι' H'=> ∀ v,Rel X.K ι' H' d v->Q v H'):=q4
   obtain ⟨ds3,e4,q6⟩:=zgb q5
   obtain ⟨a3,vs3,ea,hn3,hH3,rl3⟩:=hr3.read rv3 e4
   cases ea
   obtain ⟨b,ws,eb,hb,rlb⟩:=zdt rw'
   obtain ⟨z,q7⟩:=Fin.fits q6
   refine ⟨a,b,vs3,ws,rfl,by rw [eb],hH3,hb,by rw [<- rl3.length, <-rlb.length];exact z,?_⟩
   have q8:Fin X.K E ι3 H3 (R.ok D.non (h3.set n (.lst (ds3++zs)))) (fun d ι' H'=> ∀ v,Rel X.K ι' H' d v->Q v H'):=q7
   exact q8 ι3 _ (hr3.cellS hn3) (hr3.cell hn3 (rl3.append rlb)) _ (by simp [Rel])
  | _=>exact qa0 q4
 | _=>exact qa0 q1
end
section
variable {P:Program} {w:World} {K:W.Frag} {mg:Str->Option Value} {base:Heap}
theorem zqP {x qual:Str} {st:Stmt} {f:Addr} {fd:FuncData} {N ps:List Str} {k:Nat} {G:Sd->M Out} (F:Fun K x qual st f fd) (S:zaq N ps (zae st))
  (hb: ∀ (cdv:Value) (A:Around) (outer:List Env) (s:Shared) (H:Hp),zc1 k (A.deeper (envOfC qual (zae st) s.heap.objs.size f cdv))->SSs ({zhp CX0 P w K mg base N qual (zae st) f cdv A outer s H E0 with calm:=false}:Cx).nox E0x (zcq st) G):
  FnH P w K mg base (k+1) f fd ps (zb6 K ps.length (zcQ N.length G)):=by
 obtain ⟨oc,od,kV,doc,pm,an,cdv,ct,osl,rfl,lk,hcd⟩:=F.ex
 refine zro lk hcd S (fun vs H Q E h=>h.1) fun A outer s H vs Q hr ⟨hl,ι,h,ds,rl,hh,q⟩=>⟨_,hb cdv A outer s H hr,ι,h,zfv N.length ds,zd7 rl,hh,?_⟩
 refine Fin.bind q fun o h1 ι1 H1 e1 s1 hr1 q1=> ?_
 cases o with
 | nx sd=>exact fun σ' _=>Fin.out hr1 q1 _ (by simp [Rel])
 | rt d=>exact fun v rv=>Fin.out hr1 q1 v rv
 | bk sd=>exact qa0 q1
 | ct sd=>exact qa0 q1
end
section
variable {X:Cx} {E:XE} {body:List Stmt} {ce en gk pe x:Str} {pce p1 p2 p3 p4 p5 hp pos:Pos} {CE fk:Addr} {fdk:FuncData} {Fk:List D->M D} {gb:FS} {k:Nat} {known:List String}
theorem zqA (j:Nat) (z:ze7 X) (hN:X.N.Nodup) (hm:X.mg ce=some (.ref CE)) (hkn:zlz X.K CE known)
  (FH:FnH X.prog X.w X.K X.mg X.base k fk fdk [pe] (zb6 X.K 1 Fk)) (hbk:zaH X.K fdk [pe] []) (hmk:X.mg gk=some (.ref fk)) (kp:W.keepIn X.K (.ref fk)=true) (hr:zc1 k X.A)
  (hb: ∀ pn xe E',zc3 (CXE X.prog X.w) (X.re pn xe) (znb X.K E')->SSs (X.re pn xe) E' body gb)
  (hj:X.N[j]? = some en:=by rfl) (hen:X.env.scope.names.lookup en=some .local:=by rfl) (hg:Gl X ce:=by rfl) (hgk:Gl X gk:=by rfl)
  (hd:(ce==("__debug__":Str))=false:=by decide) (hd2:(gk==("__debug__":Str))=false:=by decide) (hd3:(en==("__debug__":Str))=false:=by decide):
  SS X E (.Try body [.ExceptHandler (some (.Name ce pce)) (some en) [.Return (some (.Call (.Name gk p1) [.Name en p2] [] p3)) p4] hp] [] [] pos) (zge known gb Fk):=zpC z hN hj hen hg hm hkn.known hb FH hbk hgk hmk kp hr hd hd2 hd3
end
noncomputable def zhd (Fs:List (List D->M D)) (i:D):M (List D->M D):=match i with
 | .int j=>(match ixN Fs.length j with
   | some m=>ofO Fs[m]?
   | none=>M.bad)
 | _=>M.bad
noncomputable def znJ (n:Nat) (Fs:List (List D->M D)) (fi:FE) (fs:FA):FE:=fun sd=>do
 let i<-fi sd
 let F<-zhd Fs i
 let ds<-fs sd
 zau n F ds
structure Fns (X:Cx) (n:Nat) (addrs:List Addr) (Fs:List (List D->M D)):Prop where
 len:Fs.length=addrs.length
 ok: ∀ (m:Nat) (F:List D->M D) (a:Addr),Fs[m]? = some F->addrs[m]? = some a-> ∃ k fd ps,zbw X.prog X.w X.K X.mg X.base (CXE X.prog X.w) k a fd ps (spE X.K n F)/\zds k X.A/\W.keepIn X.K (.ref a)=true/\zaH X.K fd ps []
theorem Fns.nil {X:Cx} {n:Nat}:Fns X n [] []:=⟨rfl,fun m F a h=>by simp at h⟩
theorem Fns.cons {X:Cx} {n k:Nat} {a:Addr} {F:List D->M D} {addrs:List Addr} {Fs:List (List D->M D)} {fd:FuncData} {ps:List Str} (G:zbw X.prog X.w X.K X.mg X.base (CXE X.prog X.w) k a fd ps (spE X.K n F)) (hr:zds k X.A) (hk:W.keepIn X.K (.ref a)=true) (hb:zaH X.K fd ps []) (h:Fns X n addrs Fs):Fns X n (a::addrs) (F::Fs):=by
 refine ⟨by simp [h.len],fun m F' a' h1 h2=> ?_⟩
 cases m with
 | zero=>simp at h1 h2;subst h1 h2;exact ⟨k,fd,ps,G,hr,hk,hb⟩
 | succ m=>simp at h1 h2;exact h.ok m F' a' h1 h2
section
variable {X:Cx} {E:XE} {e ix:Expr} {es fes:List Expr} {pos p q3 q4:Pos} {fi:FE} {fs:FA} {x:Str}
theorem zpo {a:Addr} {addrs:List Addr} (hm:X.mg x=some (.ref a)) (h:PA X fes (fun _ H Q=>Q (addrs.map V.ref) H)) (hg:Gl X x:=by rfl) (hd:(x==("__debug__":Str))=false:=by decide) (hs:starEach (.Name x p::fes) X.env=(false,eval (.Name x p) X.env)::starEach fes X.env:=by rfl):
  PA X (.Name x p::fes) (fun _ H Q=>Q ((a::addrs).map V.ref) H):=zbt (zhY (v:= .ref a) hg hm rfl hd) h hs
theorem zqk:PA X [] (fun _ H Q=>Q (([]:List Addr).map V.ref) H):=zcV
theorem zor {n:Nat} {i:Int} {m:Nat} (h:ixN n i=some m):m<n:=by
 unfold ixN at h
 split at h
 ·split at h
  ·cases h;omega
  ·cases h
 ·split at h
  ·cases h;omega
  ·cases h
theorem zry {n:Nat} {addrs:List Addr} {Fs:List (List D->M D)} (hfe:PA X fes (fun _ H Q=>Q (addrs.map V.ref) H)) (hF:Fns X n addrs Fs) (hx:zc3 (CXE X.prog X.w) X (znb X.K E)) (hi:SE X E ix fi) (ha:SA X E (e::es) fs) (hsz:addrs.length<=60:=by simp) (hs:zeN ix:=by intro _ _;rfl)
  (he:starEach (e::es) X.env=(false,eval e X.env)::starEach es X.env:=by rfl) (hpl:(backTo pos (starEach es X.env)).any (·.1)=false:=by rfl):
  SE X E (.Call (.Subscript (.List fes q3) ix q4) (e::es) [] pos) (znJ n Fs fi fs):=by
 intro pins s σ H Q I ⟨ι,h,sd,L,hh,q⟩
 show wpAny (model X.prog X.w) X.A (eval (.Subscript (.List fes q3) ix q4) X.env>>=fun f=>callWith pos f [] (backTo pos (starEach (e::es) X.env)) (backToKw pos (keywordEach [] X.env))) _ _ s
 refine qaW ?_
 refine thn (zqc (pos:=q4) zjU (zku hfe) hi hs pins s σ H (fun v H1=> ∃ (a:Addr) (m:Nat) (F:List D->M D) (ι1:Io) (h1:Hh),v= .ref a/\Fs[m]? = some F/\addrs[m]? = some a/\zcF X.K ι1 H1 sd σ/\za9 X.K ι1 H1 h1/\Fin X.K E ι1 H1 ((do let ds<-fs sd;zau n F ds) h1) fun d ι' H'=> ∀ v,Rel X.K ι' H' d v->Q v H') I ?_) fun f s1 hf=> ?_
 ·refine ⟨by rw [qaH];exact qaS hsz (by decide),fun p hp=>⟨ι,h,sd,L.step (hh.laidS hp),hh.laid hp,?_⟩⟩
  refine Fin.bind (Fin.step (hh.laidS hp) q) fun d h1 ι1 H1 e1 s1 hr1 q1 v rv=> ?_
  cases d with
  | int j=>
   simp only [Rel] at rv
   subst rv
   have hp1:H1 p=some (.lst (addrs.map V.ref)):=s1.keep p _ zaV (hh.nin hp)
   cases ej:ixN Fs.length j with
   | none=>
    have q2:Fin X.K E ι1 H1 ((zhd Fs (.int j)>>=fun F=>fs sd>>=fun ds=>zau n F ds) h1) _:=q1
    unfold zhd at q2
    simp only [ej] at q2
    exact qa0 q2
   | some m=>
    have hm:=zor ej
    have hm2:m<addrs.length:=by rw [<- hF.len];exact hm
    refine ⟨p,_,j,.ref addrs[m],rfl,rfl,SqL.of hp1,?_,addrs[m],m,Fs[m],ι1,h1,rfl,by simp [hm],by simp [hm2],(L.step (hh.laidS hp)).step s1,hr1,?_⟩
    ·unfold atI
     rw [qaH, <-hF.len,ej]
     simp [hm2]
    ·have q2:Fin X.K E ι1 H1 ((zhd Fs (.int j)>>=fun F=>fs sd>>=fun ds=>zau n F ds) h1) _:=q1
     unfold zhd at q2
     simp only [ej,qaf hm] at q2
     exact q2
  | _=>exact qa0 q1
 ·obtain ⟨v,H1,I1,rv,a,m,F,ι1,h1,rfl,hFm,ham,L1,hr1,q1⟩:=hf
  obtain rfl:f=Value.ref a:=rv
  obtain ⟨k,fd,ps,G,hr,hk,hb⟩:=hF.ok m F a hFm ham
  refine W.callWith_K (h₀:=X.base) I.ok.mod.kin hk (thn (ha pos pins s1 σ H1 _ I1 ⟨ι1,h1,sd,L1,hr1,Fin.bind q1 fun ds h2 ι2 H2 e2 s2 hr2 q2 vs rvs=> ?_⟩) fun us s2 ⟨vs,H2,I2,r,q⟩=>⟨I2.kIn,zni G hr hb (dvs:=[]) .nil hx I2 r q⟩) he hpl
  show spE X.K n F (vs++[]) H2 Q _
  rw [List.append_nil]
  unfold zau at q2
  by_cases hl:ds.length=n
  ·rw [qa4 hl] at q2
   exact ⟨by rw [<- rvs.length];exact hl,ι2,h2,ds,rvs,hr2,Fin.exmono (fun c H' z C v hc=>⟨c,C,rfl,hc,z⟩) q2⟩
  ·rw [qa5 hl] at q2
   exact qa0 q2
end
end L3
namespace L2
open PySem PySem.Spec PyProof.Rows
section
variable {X:Cx} {tg:Expr}
end
end L2
namespace L3
open PySem PySem.Spec PyProof.Rows L2
section
variable {X:Cx} {E:XE} {e o:Expr} {f fo fe:FE} {pos apos cpos:Pos}
noncomputable def zbE (tc:FT) (gb:FS):Nat->FS
 | 0,_=>M.bad
 | n+1,sd=>do
  let b<-tc sd
  if b=true then
   let o<-gb sd
   match o with
   | .nx sd'=>zbE tc gb n sd'
   | .ct sd'=>zbE tc gb n sd'
   | .bk sd'=>pure (.nx sd')
   | .rt d=>pure (.rt d)
  else pure (.nx sd)
noncomputable def zez (n:Nat) (tc:FT) (gb:FS):FS:=zbE tc gb n
theorem zfI {c:Expr} {body:List Stmt} {tc:FT} {gb:FS} (n:Nat) (hp:PassesOwn (model X.prog X.w) X.A X.env X.xe) (hc:ST X E c tc) (hb:SSs X E body gb):SS X E (.While c body [] pos) (zez n tc gb):=by
 refine PS.imp (zmj hp hc hb) fun D0 σ H ⟨ι,h,sd,L,hh,q⟩=> ?_
 refine ⟨fun m σ' H'=> ∃ ι' h' sd',zcF X.K ι' H' sd' σ'/\za9 X.K ι' H' h'/\Fin X.K E ι' H' (zbE tc gb m sd' h') (zgg X.K D0),⟨n,ι,h,sd,L,hh,q⟩,?_⟩
 rintro m σ2 H2 ⟨ι2,h2,sd2,L2,hr2,q2⟩
 cases m with
 | zero=>exact qa0 q2
 | succ m=>
  refine ⟨ι2,h2,sd2,L2,hr2,Fin.bind q2 fun b h3 ι3 H3 e3 s3 hr3 q3=> ?_⟩
  cases b with
  | true=>
   refine ⟨fun σ' H'=> ∃ ι' h' sd',zcF X.K ι' H' sd' σ'/\za9 X.K ι' H' h'/\Fin X.K E ι' H' (zbE tc gb m sd' h') (zgg X.K D0),fun σ' H' p=>⟨m,by omega,p⟩,ι3,h3,sd2,L2.step s3,hr3,Fin.bind q3 fun o h7 ι7 H7 e7 s7 hr7 q7=> ?_⟩
   cases o with
   | nx sd'=>exact fun σ' L'=>⟨ι7,h7,sd',L',hr7,q7⟩
   | ct sd'=>exact fun σ' L'=>⟨ι7,h7,sd',L',hr7,q7⟩
   | bk sd'=>exact fun σ' L'=>Fin.out (E:=E) (P:=zgg X.K D0) hr7 q7 σ' L'
   | rt d=>exact fun v rv=>Fin.out (E:=E) (P:=zgg X.K D0) hr7 q7 v rv
  | false=>exact Fin.out (E:=E) (P:=zgg X.K D0) hr3 q3 σ2 (L2.step s3)
theorem zat.eraseIdx {K:W.Frag} {ι:Io} {H:Hp}: ∀ {ds:List D} {vs:List V} (i:Nat),zat K ι H ds vs->zat K ι H (ds.eraseIdx i) (vs.eraseIdx i)
 | [],vs,i,h=>by
  simp only [zat] at h
  subst h
  simpa using zat.nil
 | x::r,vs,i,h=>by
  simp only [zat] at h
  obtain ⟨v,vs',rfl,rv,rl⟩:=h
  cases i with
  | zero=>simpa using rl
  | succ i=>exact zat.cons rv (zat.eraseIdx i rl)
end
end L3
namespace L3
open PySem
open Sem (wp)
open AutoSeq1 (wpAny_loadPart')
section
variable {prog:Program} {w:World} {A:Around} {E:Value->Shared->Prop} {s:Shared}
theorem zdV {it l:Addr} {i:Nat} {items:Array Value} {x:Value} {Q:Value->Shared->Prop} (hit:s.heap.IsTupleIter it l i) (hl:s.heap.IsTuple l items) (hx:items[i]? = some x)
  (hQ: ∀ h',h'.IsTupleIter it l (i+1)->Heap.SameBut it s.heap h'->Q x {s with heap:=h'}):wpAny (model prog w) A (Builtin.SmallTypes.nextOf (.ref it)) Q E s:=by
 obtain ⟨o,ho,hc,hd⟩:=id hit
 obtain ⟨ol,hol,_,nl,hdl⟩:=hl
 unfold Builtin.SmallTypes.nextOf
 refine qaW (wpAny_callSpecial?_slot (name:=Str.ofString "__next__") hit.typeIs F.slot_tuple_iterator_next
   (wpAny_call_entry F.slot_tuple_iterator_next hit.typeIs F.entry_tuple_iterator_next ?_ (F.args_tuple_iterator_next_1 _)))
 show wpAny _ _ (field (.ref it) 0>>=_) _ _ s
 refine qaW (wpAny_field ho hd (x:= .ref l) rfl ?_)
 show wpAny _ _ (if (Value.ref l==Value.none)=true then _ else _) _ _ s
 rw [qa5 (show ¬((Value.ref l==Value.none)=true) from Bool.false_ne_true)]
 show wpAny _ _ (field (.ref it) 1>>=_) _ _ s
 refine qaW (wpAny_field ho hd (x:= .int i 0) rfl ?_)
 show wpAny _ _ (seqItems? (.ref l)>>=_) _ _ s
 refine qaW (wpAny_seqItems hol hdl ?_)
 simp only [qaB,hx]
 refine qaW (wpAny_setField ho hd (by simp) (qaX ⟨x,rfl,qaX (hQ _ ?_ (Heap.SameBut.update ..))⟩))
 exact ⟨_,qal _ ho (Obj.isFreed_of_fields (Obj.data_mapFields hd _)),(Obj.cls_mapFields ..).trans hc,by
   rw [Obj.data_mapFields hd];simp [rawInt]⟩
theorem zej {it l:Addr} {i:Nat} {items:Array Value} {Q:Value->Shared->Prop} (hh:zlv A s.heap) (hit:s.heap.IsTupleIter it l i) (hl:s.heap.IsTuple l items) (hx:items[i]? = none)
  (hE: ∀ h' e,Heap.ExtBut it s.heap h'->(∃ o,h'.get? e=some o/\o.cls= .type "StopIteration")->E (.ref e) {s with heap:=h'}):wpAny (model prog w) A (Builtin.SmallTypes.nextOf (.ref it)) Q E s:=by
 obtain ⟨o,h1,h2,h3⟩:=id hit
 obtain ⟨ol,l1,_,nl,l2⟩:=hl
 unfold Builtin.SmallTypes.nextOf
 refine qaW (wpAny_callSpecial?_slot (name:=Str.ofString "__next__") hit.typeIs F.slot_tuple_iterator_next
   (wpAny_call_entry F.slot_tuple_iterator_next hit.typeIs F.entry_tuple_iterator_next ?_ (F.args_tuple_iterator_next_1 _)))
 show wpAny _ _ (field (.ref it) 0>>=_) _ _ s
 refine qaW (wpAny_field h1 h3 (x:= .ref l) rfl ?_)
 show wpAny _ _ (if (Value.ref l==Value.none)=true then _ else _) _ _ s
 rw [qa5 (show ¬(Value.ref l==Value.none)=true from nofun)]
 show wpAny _ _ (field (.ref it) 1>>=_) _ _ s
 refine qaW (wpAny_field h1 h3 (x:= .int i 0) rfl ?_)
 show wpAny _ _ (seqItems? (.ref l)>>=_) _ _ s
 refine qaW (wpAny_seqItems l1 l2 ?_)
 simp only [qaB,hx]
 refine qaW (wpAny_rule (qaW (wpAny_setField h1 h3 (by simp) ?_)))
 show wpAny _ _ (newExc (.type "StopIteration") []>>=_) _ _ _
 refine qaW ?_
 simp only [newExc,newTuple]
 refine qaW (qaC ?_ (by size_fits))
 refine qaW (m:=firstArgMember _ _) (wpAny_of_eq (a:=Value.none) (by first | rfl | (simp only [firstArgMember];rfl)) ?_)
 refine qaC ?_ (by size_fits)
 rcases hh with hh | ⟨ha,cls,head,hh,hX⟩
 ·simp only [raiseNew]
  refine qaW (wpAny_handled ?_)
  first | rw [show A.in1.handled=none from hh] | rw [hh]
  refine qaW (qaX (wpAny_throw ?_))
  exact hE _ _ (((Heap.SameBut.update ..).extBut.push _).push _) ⟨_,qar _ rfl,rfl⟩
 have nit:ha≠it:=fun z=>by
  subst z
  obtain ⟨ob,vs,x1,_,_,x4,x5,x6⟩:=hX
  rw [h1] at x1
  cases x1
  rw [h3] at x4
  cases x4
  simp at x5
 have hX1:zhq (s.heap.update it (Obj.mapFields (·.setIfInBounds 0 Value.none))) ha cls head:=by
  obtain ⟨ob,vs,x1,x2⟩:=hX
  exact ⟨ob,vs,(qah _ _ (Ne.symm nit)).trans x1,x2⟩
 obtain ⟨ob,vs,x1,x2⟩:=hX1
 have y1:=qag {cls:= .type "tuple",dict:=none,data:= .seq [].toArray} x1
 refine zdf (h:=ha) (cls:=cls) (head:=head) hh ⟨ob,vs,qag _ y1,x2⟩ (qar _ rfl) rfl (by simp;omega) (qaR (qaQ y1)) ?_
 refine hE _ _ (fun b o hb z=> ?_) ⟨_,qal _ (qar _ rfl) rfl,rfl⟩
 have z1:(s.heap.update it (Obj.mapFields (·.setIfInBounds 0 Value.none))).get? b=some o:=(qah _ _ (Ne.symm hb)).trans z
 have z2:=qag {cls:= .type "tuple",dict:=none,data:= .seq [].toArray} z1
 rw [qah _ _ (Nat.ne_of_gt (qaQ z2))]
 exact qag _ z2
end
noncomputable def zcv (A:Around):List Addr:=match A.handled with
 | some (.ref a)=>[a]
 | _=>[]
theorem zlv.keep {A:Around} {h h':Heap} (x:zlv A h) (k: ∀ b∈zcv A, ∀ o,h.get? b=some o->h'.get? b=some o):zlv A h':=by
 rcases x with x | ⟨a,cls,head,x1,ob,vs,x2,x3⟩
 ·exact .inl x
 ·exact .inr ⟨a,cls,head,x1,ob,vs,k a (by unfold zcv;rw [x1];simp) _ x2,x3⟩
theorem ze1 {prog:Program} {w:World} {A:Around} (it l:Addr) (hne:l≠it) (items:Array Value):
  Draws prog w A.in1 it (it::l::zcv A) items.size (fun i v=>items[i]? = some v) (fun i h=>h.IsTupleIter it l i/\h.IsTuple l items/\zlv A h/\it∉zcv A) where
 live:=fun _ _ st=>let ⟨o,ho,_⟩:=st.1;⟨o,ho⟩
 frame:=fun _ _ _ st hk=>⟨st.1.at fun o e=>hk it (by simp) o e,st.2.1.at fun o e=>hk l (by simp) o e,st.2.2.1.keep fun b hb o e=>hk b (by simp [hb]) o e,st.2.2.2⟩
 item:=fun i s Q E hi st hQ=>by
  refine zdV st.1 st.2.1 (x:=items[i]) (by simp [hi]) fun h' hit' hs'=> ?_
  exact hQ _ h' s.toks (by simp [hi]) ⟨hit',st.2.1.extBut hs'.extBut hne,st.2.2.1.keep fun b hb o e=>(hs'.2 b fun z=>st.2.2.2 (z▸hb)).trans e,st.2.2.2⟩ hs'
 done:=fun s Q E st hE=>zej (A:=A.in1) st.2.2.1 st.1 st.2.1 (by simp) hE
theorem zdl (l:Addr) (items:Array Value) (n:Nat) (dct:Option Addr) (sl:Array (Option Value)):
  Meets (Builtin.«enumerate.__new__» ⟨[.type "enumerate",.ref l],[]⟩) (fun _ R s=>s.heap.get? l=some {cls:= .type "tuple",dict:=dct,data:= .seq items n,slots:=sl}/\
    R (.ok (.ret (.ref (s.heap.push {cls:= .type "tuple_iterator",data:= .fields #[.ref l,.int 0 0]}).objs.size)))
      {s with heap:=(s.heap.push {cls:= .type "tuple_iterator",data:= .fields #[.ref l,.int 0 0]}).push {cls:= .type "enumerate",data:= .fields #[.none,.bool false,.ref s.heap.objs.size,rawInt 0,.none,.none]}}):=
 .of_wp fun prog w A R s h=>by
  obtain ⟨hp,g,d,tk,os⟩:=s;obtain ⟨hl,h⟩:=h
  have hsub:=sub_enumerate
  have hL:Heap.IsTuple (Shared.heap ⟨hp,g,d,tk,os⟩) l items:=⟨_,hl,rfl,n,rfl⟩
  wp_walk using wpAny_loadPart' hl
  refine wpAny_stack_any fun st=>qaX ?_
  split
  ·rename_i c _ _ _ _ _
   cases (c==Value.type "enumerate")
   ·wp_walk using wpAny_loadPart' hl,wpAny_pyIter_tuple hL
    exact ⟨_,rfl,h⟩
   ·wp_walk using wpAny_loadPart' hl,wpAny_pyIter_tuple hL
    exact ⟨_,rfl,h⟩
  ·wp_walk using wpAny_loadPart' hl,wpAny_pyIter_tuple hL
   exact ⟨_,rfl,h⟩
end L3
namespace L3
open PySem
section
variable {prog:Program} {w:World} {A:Around} {E:Value->Shared->Prop} {s:Shared}
theorem zdj {l:Addr} {items:Array Value} {Q:Value->Shared->Prop} (hL:s.heap.IsTuple l items)
  (h: ∀ h',IsEnum h' (s.heap.objs.size+1) s.heap.objs.size 0 .none->h'.IsTupleIter s.heap.objs.size l 0->h'.objs.size=s.heap.objs.size+2->
    (∀ b o,s.heap.get? b=some o->h'.get? b=some o)->Q (.ref (s.heap.objs.size+1)) {s with heap:=h'}):
  wpAny (model prog w) A (call (.type "enumerate") [.ref l]) Q E s:=by
 obtain ⟨⟨c,dct,dt,sl⟩,hl,hc,n,hd⟩:=hL
 replace hc:c= .type "tuple":=hc
 replace hd:dt= .seq items n:=hd
 subst hc hd
 refine callType_new F.called_enumerate (by decide) (F.typeCall_enumerate_1 _) (F.newCall_enumerate_1 _) (fun obj=>F.args_object_init_2 obj _) F.entry_enumerate_new
  (zdl l items n dct sl) ⟨hl,?_⟩
 have hz:(s.heap.push {cls:= .type "tuple_iterator",data:= .fields #[.ref l,.int 0 0]}).objs.size=s.heap.objs.size+1:=qaL ..
 show _/\_
 rw [hz]
 have he:IsEnum ((s.heap.push {cls:= .type "tuple_iterator",data:= .fields #[.ref l,.int 0 0]}).push
     {cls:= .type "enumerate",data:= .fields #[.none,.bool false,.ref s.heap.objs.size,rawInt 0,.none,.none]}) (s.heap.objs.size+1) s.heap.objs.size 0 .none:=by
  have:=qar (s.heap.push {cls:= .type "tuple_iterator",data:= .fields #[.ref l,.int 0 0]})
   (o:={cls:= .type "enumerate",data:= .fields #[.none,.bool false,.ref s.heap.objs.size,rawInt 0,.none,.none]}) rfl
  rw [hz] at this;exact this
 exact ⟨⟨_,he,rfl⟩,h _ he ⟨_,qag _ (qar _ rfl),rfl,rfl⟩ (by rw [qaL,hz]) fun b o x=>qag _ (qag _ x)⟩
end
end L3
namespace L2
open PySem PySem.Spec PyProof.Rows
section
variable {X:Cx} {pins:List (Addr×Obj)} {σ:St} {H:Hp} {s:Shared} {h':Heap}
theorem Inv.turned2 {t':Nat} {e it:Addr} (I:Inv X pins σ H s) (k: ∀ b o,b≠e->b≠it->s.heap.get? b=some o->h'.get? b=some o) (f:ziw X pins H e) (g:ziw X pins H it):Inv X pins σ H {s with heap:=h',toks:=t'}:=by
 obtain ⟨f0,f1,f2,f3,f4,f5⟩:=f
 obtain ⟨g0,g1,g2,g3,g4,g5⟩:=g
 have ne: ∀ b u,H b=some u->b≠e:=fun b u q z=>by rw [z,f0] at q;cases q
 have nit: ∀ b u,H b=some u->b≠it:=fun b u q z=>by rw [z,g0] at q;cases q
 have kk: ∀ b o,b∉[e,it]->s.heap.get? b=some o->h'.get? b=some o:=fun b o hb q=>k b o (fun z=>hb (by simp [z])) (fun z=>hb (by simp [z])) q
 refine I.step (g':=s.gens) (d':=s.drawn) (ch:=[e,it]) (fun b hb=> ?_) (fun b o _ _ hc q _=>kk b o hc q) (fun b o _ _ hc q _=>⟨o.slots,kk b o hc q⟩) (fun _ _ _ _ n=>n)
  (fun b o hc q=>⟨o,kk b o hc q⟩) (fun _ _ q=>q) (fun _ _ _ q=>q) (fun b ps q=>⟨#[],by rw [q];simp⟩) (fun m hm=> ?_) (fun b u q=> ?_) I.bare
 ·have z:b=e\/b=it:=by simpa using hb
  rcases z with rfl | rfl
  ·exact ⟨f3,f1,f4,f5⟩
  ·exact ⟨g3,g1,g4,g5⟩
 ·obtain ⟨o,es,ep,ho,r⟩:=hm
  exact ⟨o,es,ep,k _ o (Ne.symm f1) (Ne.symm g1) ho,r⟩
 ·refine (I.hok b u q).stay (fun c v hc q'=> ?_) (fun _ q=>q) fun _ _ q=>q
  rcases hc with z | z
  ·rw [z];exact k b v (ne b u q) (nit b u q) (by rw [<- z];exact q')
  ·exact k c v (ne c _ z) (nit c _ z) q'
end
noncomputable def Ite (K:W.Frag) (a:Addr):It:=
 ⟨fun i H=> ∃ xs x,SqT K H a xs/\xs[i]? = some x,fun i H x H'=> ∃ T y,H T=none/\H'=upd H T (.tup [.int i,y])/\x= .ref T/\ ∀ xs,SqT K H a xs->xs[i]? = some y,fun i H=> ∃ xs,SqT K H a xs/\xs.length=i⟩
theorem zj0 {P:Program} {w:World} {K:W.Frag} {elts:List Expr} {k:Nat} {pos:Pos} (a e it:Addr) (hei:e≠it):zpg P w K (.Tuple elts k pos) (Ite K a) [e,it] e (fun i h=>(∃ old,IsEnum h e it i old)/\h.IsTupleIter it a i) where
 mem:=by simp
 obj:=fun i h st b hb=>by
  obtain ⟨⟨old,he⟩,o,ho,hc,hd⟩:=st
  have z:b=e\/b=it:=by simpa using hb
  rcases z with rfl | rfl
  ·exact ⟨_,he,fun v z=>by cases z⟩
  ·exact ⟨o,ho,fun v z=>by rw [hd] at z;cases z⟩
 keep:=fun i h h' st k=>⟨let ⟨old,he⟩:=st.1;⟨old,k e (by simp) _ he⟩,st.2.at fun o q=>k it (by simp) o q⟩
 item:=by
  intro X hP hw hK i pins s σ H E I hf st hg
  subst hP hw hK
  obtain ⟨xs,y,hq,hx⟩:=hg
  obtain ⟨its,rv,p,hz⟩:=I.tuple hq
  obtain ⟨u,hu,ru⟩:=rv.get hx
  obtain ⟨⟨old,he⟩,hit⟩:=st
  have hfe:=hf e (by simp)
  have hfi:=hf it (by simp)
  obtain ⟨ot,ht,hct,nt,hdt⟩:=(show s.heap.IsTuple a its.toArray from p)
  obtain ⟨oi,hi,hci,hdi⟩:=id hit
  have hai:a≠it:=fun z=>by
   subst z
   rw [ht] at hi
   cases hi
   rw [hdt] at hdi
   cases hdi
  have hea:e≠a:=fun z=>by
   subst z
   have he':s.heap.get? e=_:=he
   rw [ht] at he'
   cases he'
   cases hdt
  have hin:it∉L3.zcv X.A:=fun z=>by
   rcases I.hand with q | ⟨ha,cls,head,q,ob,vs,x1,_,_,x4,x5,_⟩
   ·unfold L3.zcv at z;rw [q] at z;simp at z
   ·unfold L3.zcv at z
    rw [q] at z
    have:it=ha:=by simpa using z
    subst this
    rw [hi] at x1
    cases x1
    rw [hdi] at x4
    cases x4
    simp at x5
  have hen:e∉L3.zcv X.A:=fun z=>by
   rcases I.hand with q | ⟨ha,cls,head,q,ob,vs,x1,_,_,x4,x5,_⟩
   ·unfold L3.zcv at z;rw [q] at z;simp at z
   ·unfold L3.zcv at z
    rw [q] at z
    have:e=ha:=by simpa using z
    subst this
    have he':s.heap.get? e=_:=he
    rw [x1] at he'
    cases he'
    cases x4
    simp at x5
  have hlt:i<its.toArray.size:=by
   have:=(qac.mp hu).1
   simpa using this
  refine wpAny_pyNext_enum_itemD (L3.ze1 (A:=X.A) it a hai its.toArray) he ⟨hit,p,I.hand,hin⟩ hlt hei (by simp [hei,hea,hen]) fun x h1 tk hP ho hs' hT hsz hk=> ?_
  have hxu:x=u:=by
   have:its[i]? = some x:=by simpa using hP
   rw [hu] at this
   exact (Option.some.inj this).symm
  subst hxu
  refine ⟨_,rfl,wpAny_letOwnedTupleGo_enum ho fun h2 he2 hs2=> ?_⟩
  have het:e≠s.heap.objs.size:=qaR (qaQ he)
  have hit':it≠s.heap.objs.size:=qaR (qaQ hi)
  have fresh:=I.hok.fresh (qaV s.heap.objs.size)
  have I1:Inv X pins σ (upd H s.heap.objs.size (.tup [.int i,y])) {s with heap:=s.heap.push {cls:= .type "tuple",data:= .seq #[.int i tk,x]},toks:=tk+1}:=
   I.laid (t':=tk+1) (fun b o q=>qag _ q) (qaV _) (show zbM X.prog X.w _ _ _ (.tup [.int i,y]) from ⟨by show 2<=sizeLine;decide,[.int i tk,x],.cons ⟨tk,rfl⟩ (.cons ru .nil),IsTup.new _ _⟩)
  have fe:ziw X pins (upd H s.heap.objs.size (.tup [.int i,y])) e:=⟨by rw [zaz het];exact hfe.1,hfe.2⟩
  have fi:ziw X pins (upd H s.heap.objs.size (.tup [.int i,y])) it:=⟨by rw [zaz hit'];exact hfi.1,hfi.2⟩
  have I2:Inv X pins σ (upd H s.heap.objs.size (.tup [.int i,y])) {s with heap:=h1,toks:=tk+1}:=I1.turned2 (t':=tk+1) (h':=h1) (fun b o hb1 hb2 q=>by
    rcases Heap.get?_push_cases q with ⟨z1,z2⟩ | z
    · rw [z1,z2];exact hT
    · exact hk b o hb1 hb2 z) fe fi
  obtain ⟨f0,f1,f2,f3,f4,f5⟩:=fe
  have I3:Inv X pins σ (upd H s.heap.objs.size (.tup [.int i,y])) {s with heap:=h2,toks:=tk+1}:=I2.turned (t':=tk+1) (fun b o hb q=>(hs2.2 b hb).trans q) f0 f1 f3 f4 f5
  refine ⟨.ref s.heap.objs.size,_,I3,rfl,⟨s.heap.objs.size,y,fresh,rfl,rfl,fun ys hy=>by rw [I.tuple_inj hy hq];exact hx⟩,⟨⟨x,by simpa using he2⟩,hs'.1.at fun o q=>(hs2.2 it (Ne.symm hei)).trans q⟩,fun b hb=> ?_⟩
  have z:b=e\/b=it:=by simpa using hb
  rcases z with rfl | rfl
  ·exact f0
  ·exact fi.1
 done:=by
  intro X hP hw hK i pins s σ H E I hf st hg
  subst hP hw hK
  obtain ⟨xs,hq,hx⟩:=hg
  obtain ⟨its,rv,p,hz⟩:=I.tuple hq
  obtain ⟨⟨old,he⟩,hit⟩:=st
  have hfi:=hf it (by simp)
  obtain ⟨ot,ht,hct,nt,hdt⟩:=(show s.heap.IsTuple a its.toArray from p)
  obtain ⟨oi,hi,hci,hdi⟩:=id hit
  have hai:a≠it:=fun z=>by
   subst z
   rw [ht] at hi
   cases hi
   rw [hdt] at hdi
   cases hdi
  have hin:it∉L3.zcv X.A:=fun z=>by
   rcases I.hand with q | ⟨ha,cls,head,q,ob,vs,x1,_,_,x4,x5,_⟩
   ·unfold L3.zcv at z;rw [q] at z;simp at z
   ·unfold L3.zcv at z
    rw [q] at z
    have:it=ha:=by simpa using z
    subst this
    rw [hi] at x1
    cases x1
    rw [hdi] at x4
    cases x4
    simp at x5
  have hn:its.toArray.size=i:=by
   have:=rv.length
   simp
   omega
  subst hn
  obtain ⟨f0,f1,f2,f3,f4,f5⟩:=hfi
  exact wpAny_pyNext_enum_endD (L3.ze1 (A:=X.A) it a hai its.toArray) he ⟨hit,p,I.hand,hin⟩ fun h' hx'=>⟨rfl,I.turned (t':=s.toks) (fun b o hb q=>hx' b o hb q) f0 f1 f3 f4 f5⟩
 self:=fun _ _ _ _ _ st h=>let ⟨⟨_,he⟩,_⟩:=st;wpAny_pyIter_enum he h
section
variable {X:Cx} {elts:List Expr} {k:Nat} {tpos:Pos}
noncomputable def zr1 (K:W.Frag) (ta:TA):TI:=fun σ H R=>ta σ H fun vs H1=> ∃ a,vs=[.ref a]/\(∃ xs,SqT K H1 a xs)/\R (Ite K a) H1
theorem znE {l:Expr} {ta:TA} {p pos:Pos} (hg:Gl X "enumerate") (hm:X.mg "enumerate"=none) (ha:PA X [l] ta) (hs:starEach [l] X.env=[(false,eval l X.env)]:=by rfl):
  PI X (.Tuple elts k tpos) (.Call (.Name "enumerate" p) [l] [] pos) (zr1 X.K ta):=by
 intro pins s σ H R I h
 refine Call_ (zfA I hg hm PyProof.Rows.boot_enumerate (PyProof.Rows.callWith_type1 (thn (ha pos pins s σ H _ I h) fun us s1 ⟨vs,H1,I1,r1,q1⟩=> ?_) hs rfl))
 obtain ⟨a,e,⟨xs,hq⟩,q⟩:=q1
 subst e
 cases r1 with
 | cons r rr=>
  cases rr
  cases r
  obtain ⟨its,rv,p,hz⟩:=I1.tuple hq
  refine L3.zdj (show s1.heap.IsTuple a its.toArray from p) fun h' he hit hsz kp=> ?_
  refine wpAny_pyIter_enum he ?_
  refine ⟨s1.heap.objs.size+1,[s1.heap.objs.size+1,s1.heap.objs.size],_,_,H1,rfl,I1.kept (t':=s1.toks) kp,zj0 a _ _ (Nat.succ_ne_self _),⟨⟨_,he⟩,hit⟩,fun b hb=> ?_,q⟩
  have z:b=s1.heap.objs.size+1\/b=s1.heap.objs.size:=by simpa using hb
  rcases z with rfl | rfl
  ·exact I1.fpOk (Nat.le_succ _) (I1.hok.fresh (Nat.le_succ _))
  ·exact I1.fpOk (qaV _) (I1.hok.fresh (qaV _))
end
end L2
namespace L3
open PySem PySem.Spec PyProof.Rows L2
section
variable {X:Cx} {E:XE} {elts:List Expr} {k:Nat} {tpos pos:Pos}
noncomputable def znl (ds:List D):List D:=(List.range ds.length).map fun (i:Nat)=> .tup [.int i,ds.getD i .non]
theorem zlI {K:W.Frag} {ι:Io} {H:Hp} {a:Addr} {vs:List V} {ds:List D} (h: ∀ ι' H',Pass ι H ι' H'->SqT K H' a vs) (rl:zat K ι H ds vs):zph K ι H (Ite K a) (znl ds) where
 go:=fun ι' H' i s hi=>by
  have hi:i<ds.length:=by simpa [znl] using hi
  obtain ⟨v,ev,_⟩:=zat.get rl (i:=i) (d:=ds[i]) (by simp [hi])
  exact ⟨vs,v,h ι' H' s,ev⟩
 yld:=fun ι' H' _ i x H2 s hr hi ⟨T,y,hT,e,e2,hy⟩=>by
  subst e e2
  have hi:i<ds.length:=by simpa [znl] using hi
  obtain ⟨v,ev,rv⟩:=zat.get rl (i:=i) (d:=ds[i]) (by simp [hi])
  have ey:=hy vs (h ι' H' s)
  rw [ev] at ey
  cases ey
  refine ⟨.inr ⟨T,_,hT,rfl⟩,.tup [.int i,ds[i]],by simp [znl,hi],?_⟩
  obtain ⟨st,hr2⟩:=zrO.step (.inr ⟨T,[.int i,y],hT,rfl⟩) hr
  have rv2:Rel K ι' (upd H' T (.tup [.int i,y])) ds[i] y:=(rv.pass s).step st
  simp only [Rel]
  exact ⟨T,_,rfl,⟨zaV,hr.nin hT⟩,zat.cons (by simp [Rel]) (zat.cons rv2 zat.nil)⟩
 stop:=fun ι' H' s=>⟨vs,h ι' H' s,by rw [<- rl.length];simp [znl]⟩
noncomputable def zs7 (f:FE):FA:=fun sd=>do
 let d<-f sd
 match d with
 | .tup ds=>pure (znl ds)
 | _=>M.bad
theorem zqK {l:Expr} {f:FE} {p:Pos} (hm:X.mg "enumerate"=none) (he:SE X E l f) (hg:Gl X "enumerate":=by rfl) (hs:starEach [l] X.env=[(false,eval l X.env)]:=by rfl):SI X E (.Tuple elts k tpos) (.Call (.Name "enumerate" p) [l] [] pos) (zs7 f):=by
 refine PI.imp (znE hg hm (zbt he zcV hs) hs) fun σ H Q ⟨ι,h,sd,L,hh,q⟩=>⟨ι,h,sd,L,hh,Fin.bind q fun d h1 ι1 H1 e1 s1 hr1 q1 v rv=> ?_⟩
 cases d with
 | tup ds=>
  obtain ⟨a,vs,e,h1',h2⟩:=zjI rv
  exact ⟨a,by rw [e],⟨vs,h1' _ _ (Pass.refl _ _)⟩,Fin.out hr1 q1 _ (zlI h1' h2)⟩
 | _=>exact qa0 q1
end
end L3
namespace L3
open PySem PyProof.Rows
section
open PySem.SeqAt
open PySem.AutoSeq1 (wpAny_loadPart')
open PySem.MeetsSeq PySem.MeetsSeq2 PySem.MeetsSeq3
section
variable {prog:Program} {w:World} {A:Around} {E:Value->Shared->Prop} {s:Shared}
end
def zjD (h:Heap) (v:Value) (p:Int×List Int):Prop:= ∃ (a q:Addr) (t:Tok) (its:List Value),v= .ref a/\IsTup h a #[.int p.1 t,.ref q]/\IsTup h q its.toArray/\IntsAre its p.2
theorem zjD.keep {h h':Heap} {v:Value} {p:Int×List Int} (k: ∀ b o,h.get? b=some o->h'.get? b=some o):zjD h v p->zjD h' v p:=fun ⟨a,q,t,its,e,⟨o,x1,x2⟩,⟨o',y1,y2⟩,z⟩=>⟨a,q,t,its,e,⟨o,k _ _ x1,x2⟩,⟨o',k _ _ y1,y2⟩,z⟩
end
end L3
namespace L3
open PySem
section
variable {prog:Program} {w:World} {A:Around} {R:Result->Shared->Prop} {I:Addr} {fp wr:List Addr} {n:Nat} {P:Nat->Value->Prop} {St:Nat->Heap->Prop} {h0:Heap}
end
section
variable {prog:Program} {w:World} {A:Around} {E:Value->Shared->Prop} {s:Shared}
end
end L3
namespace L2
open PySem PySem.Spec PyProof.Rows L3
section
variable {X:Cx}
end
end L2
namespace L3
open PySem PySem.Spec PyProof.Rows L2
section
variable {X:Cx} {E:XE}
end
section
variable {X:Cx} {E:XE}
noncomputable def zts (d:D):M Bool:=do let ds<-zlK d;pure (!ds.isEmpty)
noncomputable def ztj (f:FE):FT:=fun sd=>do let d<-f sd;zts d
end
end L3
section
namespace TS
set_option autoImplicit false
open PySem PyProof PyProof.Rows
noncomputable abbrev Ga:Bool->Keyed->Array Keyed->Nat->Nat->Nat->StateT SortSt Sem (Option Nat):=sortPriv% PySem.Builtin.gallop
noncomputable abbrev Lt:Keyed->Keyed->StateT SortSt Sem (Option Bool):=sortPriv% PySem.Builtin.lt
noncomputable abbrev El:Array Keyed->Nat->StateT SortSt Sem Keyed:=sortPriv% PySem.Builtin.elem
structure Cx where
 prog:Program
 w:World
 A:Around
 E:Value->Shared->Prop
 s:Shared
 kd:SortKind
 O:KeyOrd
 ky:Value->O.α
 ok:Value->Prop
 cmp: ∀ (E':Value->Shared->Prop) (x y:Value) (Q:Bool->Shared->Prop),ok x->ok y->Q (O.blt (ky x) (ky y)) s->wpAny (model prog w) A (keyLt' kd x y) Q E' s
noncomputable abbrev Cx.wp (c:Cx) {α:Type} (m:StateT SortSt Sem α) (Q:α->SortSt->Prop) (st:SortSt):Prop:=wpS (model c.prog c.w) c.A c.E c.s m Q st
noncomputable def Cx.lt (c:Cx) (x y:Keyed):Bool:=c.O.blt (c.ky x.1) (c.ky y.1)
def Cx.le (c:Cx) (x y:Keyed):Prop:=c.lt y x=false
section
variable {c:Cx}
theorem Cx.le_refl (x:Keyed):c.le x x:=c.O.irrefl _
theorem Cx.le_of_lt {x y:Keyed} (h:c.lt x y=true):c.le x y:=KeyOrd.klt_asymm (O:=c.O) h
theorem Cx.le_trans {x y z:Keyed} (h:c.le x y) (h2:c.le y z):c.le x z:=KeyOrd.kle_trans (O:=c.O) h h2
end
end TS
end
section
namespace TS
set_option autoImplicit false
open PySem PyProof PyProof.Rows
noncomputable abbrev Sg:Nat->StateT SortSt Sem Unit:=sortPriv% PySem.Builtin.setMinGallop
structure Sm (st st':SortSt):Prop where
 k:kindOf st'=kindOf st
 a:arrOf st'=arrOf st
 p:pendingOf st'=pendingOf st
 f:failedOf st'=failedOf st
theorem Sm.refl (st:SortSt):Sm st st:=⟨rfl,rfl,rfl,rfl⟩
theorem Sm.g {st st':SortSt} (h:Sm st st') (n:Nat):Sm st (SortSt.mk' (kindOf st') (arrOf st') (pendingOf st') n (failedOf st')):=⟨h.k,h.a,h.p,h.f⟩
structure Mg (r:Keyed->Keyed->Prop) (O L R T:List Keyed):Prop where
 s:O.Pairwise r
 l: ∀ x,x∈O-> ∀ y,y∈L->r x y
 r: ∀ x,x∈O-> ∀ y,y∈R->r x y
 p:(O++(L++R)).Perm T
section
variable {r:Keyed->Keyed->Prop} {O L R T X:List Keyed}
theorem Mg.symm (h:Mg r O L R T):Mg r O R L T:=⟨h.s,h.r,h.l,(List.Perm.append_left O List.perm_append_comm).trans h.p⟩
theorem Mg.fin (h:Mg r O L R T) (hs:(L++R).Pairwise r):(O++(L++R)).Pairwise r/\(O++(L++R)).Perm T:=by
 refine ⟨?_,h.p⟩
 rw [qaq]
 refine ⟨h.s,hs,fun x hx y hy=> ?_⟩
 rcases qaK.mp hy with hy | hy
 ·exact h.l x hx y hy
 ·exact h.r x hx y hy
end
section
variable {c:Cx}
def srt (c:Cx) (a:Array Keyed):Prop:=a.toList.Pairwise c.le
def okA (c:Cx) (a:Array Keyed):Prop:= ∀ x,x∈a.toList->c.ok x.1
structure MgA (c:Cx) (a b out:Array Keyed) (ia ib:Nat):Prop where
 m:Mg c.le out.toList (a.toList.drop ia) (b.toList.drop ib) (a.toList++b.toList)
 z:out.size=ia+ib
 la:ia<=a.size
 lb:ib<=b.size
def Fi (c:Cx) (a b res:Array Keyed):Prop:=srt c res/\res.toList.Perm (a.toList++b.toList)
variable {a b out:Array Keyed} {ia ib k:Nat}
theorem MgA.done (h:MgA c a b out ia ib) (ha:srt c a) (hb:srt c b) (he:ia=a.size\/ib=b.size):Fi c a b (out++a.extract ia++b.extract ib):=by
 have e:(out++a.extract ia++b.extract ib).toList=out.toList++(a.toList.drop ia++b.toList.drop ib):=by
  simp [List.extract,List.take_of_length_le]
 have hs:(a.toList.drop ia++b.toList.drop ib).Pairwise c.le:=by
  rcases he with he | he
  ·rw [List.drop_eq_nil_of_le (by simp [he]),List.nil_append]
   exact List.Pairwise.sublist (List.drop_sublist _ _) hb
  ·rw [List.drop_eq_nil_of_le (as:=b.toList) (by simp [he]),List.append_nil]
   exact List.Pairwise.sublist (List.drop_sublist _ _) ha
 obtain ⟨h1,h2⟩:=h.m.fin hs
 exact ⟨by unfold srt;rw [e];exact h1,by rw [e];exact h2⟩
end
end TS
end
section
namespace TS
set_option autoImplicit false
open PySem PyProof PyProof.Rows
section
variable {c:Cx} {a b:Array Keyed}
theorem zlg {α:Type} {p:Prop} [Decidable p] {x y:StateT SortSt Sem α} {Q:α->SortSt->Prop} {st:SortSt} (h1:p->c.wp x Q st) (h2: ¬p->c.wp y Q st):c.wp (if p then x else y) Q st:=by
 by_cases h:p
 ·rw [qa4 h];exact h1 h
 ·rw [qa5 h];exact h2 h
noncomputable abbrev StL:=ForInStep (Option (Array Keyed)×Array Keyed×Nat×Nat×Nat×Nat×Nat)
structure Ex (c:Cx) (a b:Array Keyed) (N:Nat) (Q:StL->SortSt->Prop) (st:SortSt):Prop where
 d1: ∀ res t,Fi c a b res->Q (.done (some res,t)) st
 d2: ∀ o i j t,MgA c a b o i j->i+1<a.size->j<b.size->N<=o.size->Q (.done (none,o,i,j,t)) st/\Q (.yield (none,o,i,j,t)) st
 hl: ∀ (o:Array Keyed) (i j:Nat),MgA c a b o i j->i+1=a.size->Fi c a b (o++b.extract j++a.extract i)
 ha:srt c a
 hb:srt c b
 oa:okA c a
 ob:okA c b
 hk:kindOf st=c.kd
section
variable {N:Nat} {Q:StL->SortSt->Prop} {st:SortSt} {o:Array Keyed} {i j g k l u v:Nat}
end
end
end TS
end
section
namespace TS
set_option autoImplicit false
open PySem PyProof PyProof.Rows
section
variable {c:Cx} {a b out:Array Keyed} {na nb at':Nat}
structure MgH (c:Cx) (a b out:Array Keyed) (na nb:Nat):Prop where
 m:Mg (fun x y=>c.le y x) out.toList (a.toList.take na).reverse (b.toList.take nb).reverse (a.toList++b.toList)
 z:out.size+na+nb=a.size+b.size
 la:na<=a.size
 lb:nb<=b.size
theorem zlf {l:Array Keyed} (n:Nat) (h:srt c l):((l.toList.take n).reverse).Pairwise (fun x y=>c.le y x):=by
 rw [List.pairwise_reverse]
 exact List.Pairwise.sublist (List.take_sublist _ _) h
theorem zkf {r:List Keyed} {O L R T:List Keyed} (h:Mg (fun x y=>c.le y x) O L R T) (hs:(L++R).Pairwise (fun x y=>c.le y x)) (e:r=(O++(L++R)).reverse):r.Pairwise c.le/\r.Perm T:=by
 obtain ⟨h1,h2⟩:=h.fin hs
 subst e
 exact ⟨by rw [List.pairwise_reverse];exact h1,(List.reverse_perm _).trans h2⟩
theorem MgH.done (h:MgH c a b out na nb) (ha:srt c a) (hb:srt c b) (he:na=0\/nb=0):Fi c a b (a.extract 0 na++b.extract 0 nb++out.reverse):=by
 have hs:((b.toList.take nb).reverse++(a.toList.take na).reverse).Pairwise (fun x y=>c.le y x):=by
  rcases he with he | he
  ·subst he;simpa using zlf nb hb
  ·subst he;simpa using zlf na ha
 exact zkf h.m.symm hs (by simp [List.extract])
theorem MgH.first (h:MgH c a b out na nb) (ha:srt c a) (_hb:srt c b) (he:nb=1) (hl: ∀ y,b[0]? = some y-> ∀ x,x∈a.toList->c.le y x):Fi c a b (b.extract 0 nb++a.extract 0 na++out.reverse):=by
 subst he
 have hlb:=h.lb
 have ed:b.toList.take 1=[b[0]]:=by
  obtain ⟨l⟩:=b
  cases l with
  | nil=>simp at hlb
  | cons x l=>simp
 have hs:((a.toList.take na).reverse++(b.toList.take 1).reverse).Pairwise (fun x y=>c.le y x):=by
  rw [ed,qaq]
  refine ⟨zlf na ha,List.pairwise_singleton _ _,?_⟩
  intro x hx y hy
  rw [List.mem_singleton.mp hy]
  exact hl _ (getElem?_pos b 0 (by omega)) x (List.mem_of_mem_take (List.mem_reverse.mp hx))
 exact zkf h.m hs (by simp [List.extract])
noncomputable abbrev H5:=Option (Array Keyed)×Nat×Nat×Array Keyed×Nat
noncomputable abbrev H6:=Option (Array Keyed)×Nat×Nat×Array Keyed×Nat×Nat
noncomputable abbrev H7:=Option (Array Keyed)×Nat×Nat×Array Keyed×Nat×Nat×Nat
def Hi (c:Cx) (a b:Array Keyed) (N:Nat) (p q:Nat) (o:Array Keyed):Prop:=MgH c a b o p q/\0<p/\1<q/\N<=o.size
structure Ey (c:Cx) (a b:Array Keyed) (N:Nat) (Q:ForInStep H7->SortSt->Prop) (st:SortSt):Prop where
 d1: ∀ res t,Fi c a b res->Q (.done (some res,t)) st
 d2: ∀ p q o t,Hi c a b N p q o->Q (.done (none,p,q,o,t)) st/\Q (.yield (none,p,q,o,t)) st
 hl: ∀ (o:Array Keyed) (i j:Nat),MgH c a b o i j->j=1->Fi c a b (b.extract 0 j++a.extract 0 i++o.reverse)
 ha:srt c a
 hb:srt c b
 oa:okA c a
 ob:okA c b
 hk:kindOf st=c.kd
noncomputable def U4 (a b:Array Keyed) (p q:Nat) (o:Array Keyed) (g k l:Nat):StateT SortSt Sem (ForInStep H7):=El a (p - 1)>>=fun z=>
 if (p - 1==0)=true then pure (.done (some (a.extract 0 (p - 1)++b.extract 0 q++(o.push z).reverse),p - 1,q,o.push z,g,k,l))
 else if (decide (k<7) && decide (l<7))=true then pure (.done (none,p - 1,q,o.push z,g,k,l)) else pure (.yield (none,p - 1,q,o.push z,g,k,l))
noncomputable def U3 (a b:Array Keyed) (p q:Nat) (o:Array Keyed) (g k v:Nat):StateT SortSt Sem (ForInStep H7):=El b (q - 1)>>=fun y=>
 if (q - 1==1)=true then pure (.done (some (b.extract 0 (q - 1)++a.extract 0 p++(o.push y).reverse),p,q - 1,o.push y,g,k,v))
 else El a (p - 1)>>=fun z=>Ga true z b 0 (q - 1) (q - 1 - 1)>>=fun x=>match x with
  | some l=>if q - 1 - l>0 then
    if (l==1)=true then pure (.done (some (b.extract 0 l++a.extract 0 p++(o.push y++(b.extract l (q - 1)).reverse).reverse),p,l,o.push y++(b.extract l (q - 1)).reverse,g,k,q - 1 - l))
    else if (l==0)=true then pure (.done (some (a.extract 0 p++b.extract 0 l++(o.push y++(b.extract l (q - 1)).reverse).reverse),p,l,o.push y++(b.extract l (q - 1)).reverse,g,k,q - 1 - l))
    else U4 a b p l (o.push y++(b.extract l (q - 1)).reverse) g k (q - 1 - l)
   else U4 a b p (q - 1) (o.push y) g k (q - 1 - l)
  | _=>pure (.done (some (a.extract 0 p++b.extract 0 (q - 1)++(o.push y).reverse),p,q - 1,o.push y,g,k,v))
noncomputable def U2 (a b:Array Keyed) (p q:Nat) (o:Array Keyed) (g u v:Nat):StateT SortSt Sem (ForInStep H7):=El b (q - 1)>>=fun y=>Ga false y a 0 p (p - 1)>>=fun x=>match x with
  | some k=>if p - k>0 then
    if (k==0)=true then pure (.done (some (a.extract 0 k++b.extract 0 q++(o++(a.extract k p).reverse).reverse),k,q,o++(a.extract k p).reverse,g,p - k,v))
    else U3 a b k q (o++(a.extract k p).reverse) g (p - k) v
   else U3 a b p q o g (p - k) v
  | _=>pure (.done (some (a.extract 0 p++b.extract 0 q++o.reverse),p,q,o,g,u,v))
noncomputable def Z1 (a b:Array Keyed) (g:Nat) (p q:Nat) (o:Array Keyed) (u v:Nat):StateT SortSt Sem (ForInStep H6):=El b (q - 1)>>=fun y=>El a (p - 1)>>=fun z=>Lt y z>>=fun x=>match x with
 | some w=>if w=true then El a (p - 1)>>=fun z=>if (p - 1==0)=true then pure (.done (some (a.extract 0 (p - 1)++b.extract 0 q++(o.push z).reverse),p - 1,q,o.push z,u+1,0)) else if u+1>=g then pure (.done (none,p - 1,q,o.push z,u+1,0)) else pure (.yield (none,p - 1,q,o.push z,u+1,0))
  else El b (q - 1)>>=fun y=>if (q - 1==1)=true then pure (.done (some (b.extract 0 (q - 1)++a.extract 0 p++(o.push y).reverse),p,q - 1,o.push y,0,v+1)) else if v+1>=g then pure (.done (none,p,q - 1,o.push y,0,v+1)) else pure (.yield (none,p,q - 1,o.push y,0,v+1))
 | _=>pure (.done (some (a.extract 0 p++b.extract 0 q++o.reverse),p,q,o,u,v))
noncomputable def Z2 (a b:Array Keyed) (p q:Nat) (o:Array Keyed) (g u v:Nat):StateT SortSt Sem (ForInStep H7):=
 if g>1 then Sg (g - 1)>>=fun _=>U2 a b p q o (g - 1) u v else Sg g>>=fun _=>U2 a b p q o g u v
section
variable {N:Nat} {Q:ForInStep H7->SortSt->Prop} {st:SortSt} {o:Array Keyed} {p q g k l u v:Nat}
end
end
end TS
end
section
namespace TS
set_option autoImplicit false
open PySem PyProof PyProof.Rows
structure Loc (xs ys:Array Keyed) (lo hi:Nat):Prop where
 p:ys.toList.Perm xs.toList
 o: ∀ i,i<lo\/hi<=i->ys[i]? = xs[i]?
theorem Loc.refl (xs:Array Keyed) (lo hi:Nat):Loc xs xs lo hi:=⟨List.Perm.refl _,fun _ _=>rfl⟩
theorem Loc.trans {xs ys zs:Array Keyed} {lo hi:Nat} (h:Loc xs ys lo hi) (h2:Loc ys zs lo hi):Loc xs zs lo hi:=⟨h2.p.trans h.p,fun i hi=>(h2.o i hi).trans (h.o i hi)⟩
theorem Loc.size {xs ys:Array Keyed} {lo hi:Nat} (h:Loc xs ys lo hi):ys.size=xs.size:=by simpa using h.p.length_eq
section
variable {c:Cx}
def sg (c:Cx) (xs:Array Keyed) (lo hi:Nat):Prop:= ∀ i j x y,lo<=i->i<=j->j<hi->xs[i]? = some x->xs[j]? = some y->c.le x y
end
end TS
end
section
namespace TS
set_option autoImplicit false
open PySem PyProof PyProof.Rows
noncomputable abbrev CR:Nat->Nat->StateT SortSt Sem (Option Nat):=sortPriv% PySem.Builtin.countRun
structure St (c:Cx) (a0:Array Keyed) (p0:Array (Nat×Nat×Nat)) (lo hi:Nat) (st:SortSt):Prop where
 k:kindOf st=c.kd
 f:failedOf st=none
 p:pendingOf st=p0
 l:Loc a0 (arrOf st) lo hi
section
variable {c:Cx} {a0:Array Keyed} {p0:Array (Nat×Nat×Nat)} {lo hi:Nat}
noncomputable def KV (c:Cx) (xs:Array Keyed) (i:Nat):c.O.α:=c.ky (xs[i]?.getD (.none,.none)).1
def up (c:Cx) (xs:Array Keyed) (lo hi:Nat):Prop:= ∀ i j,lo<=i->i<=j->j<hi->c.O.kle (KV c xs i) (KV c xs j)
def dn (c:Cx) (xs:Array Keyed) (lo hi:Nat):Prop:= ∀ i j,lo<=i->i<=j->j<hi->c.O.kle (KV c xs j) (KV c xs i)
def ek (c:Cx) (xs:Array Keyed) (lo hi:Nat):Prop:= ∀ i,lo<=i->i<hi->KV c xs i=KV c xs (hi - 1)
theorem St.set {st:SortSt} {xs:Array Keyed} (h:St c a0 p0 lo hi st) (hl:Loc (arrOf st) xs lo hi):St c a0 p0 lo hi (setArr st xs):=⟨h.k,h.f,h.p,h.l.trans hl⟩
theorem St.ok {st:SortSt} (h:St c a0 p0 lo hi st) (ho:okA c a0):okA c (arrOf st):=fun x hx=>ho x (h.l.p.mem_iff.mp hx)
end
end TS
end
section
namespace TS
set_option autoImplicit false
open PySem PyProof PyProof.Rows
section
variable {c:Cx}
noncomputable def chn (c:Cx) (xs:Array Keyed):List (Nat×Nat×Nat)->Nat->Nat->Prop
 | [],a,b=>a=b
 | t::r,a,b=>t.1=a/\0<t.2.1/\sg c xs a (a+t.2.1)/\chn c xs r (a+t.2.1) b
structure Rn (c:Cx) (a0:Array Keyed) (lo:Nat) (st:SortSt):Prop where
 k:kindOf st=c.kd
 f:failedOf st=none
 p:(arrOf st).toList.Perm a0.toList
 h:chn c (arrOf st) (pendingOf st).toList 0 lo
theorem Rn.size {a0:Array Keyed} {lo:Nat} {st:SortSt} (h:Rn c a0 lo st):(arrOf st).size=a0.size:=by simpa using h.p.length_eq
theorem Rn.ok {a0:Array Keyed} {lo:Nat} {st:SortSt} (h:Rn c a0 lo st) (ho:okA c a0):okA c (arrOf st):=fun x hx=>ho x (h.p.mem_iff.mp hx)
end
end TS
end
section
namespace TS
set_option autoImplicit false
open PySem PyProof PyProof.Rows
noncomputable def h6 (h:Heap) (a:Addr) (vs:List Value):Heap:=((h.update a (Obj.mapSeq fun _=> #[])).push (seqObj "tuple" vs.toArray 0)).push (seqObj "list" #[] 0)
def Srt (prog:Program) (w:World) (A:Around) (vs:List Value) (s1:Shared) (kd:SortKind) (O:KeyOrd) (ky:Value->O.α) (ok:Value->Prop):Prop:=
 (∀ v,v∈vs->ok v)/\ ∀ s2:Shared,(∀ b o,s1.heap.get? b=some o->s2.heap.get? b=some o)->
  (2<=vs.length-> ∀ (E:Value->Shared->Prop) (Q:SortKind->Shared->Prop),Q kd s2->wpAny (model prog w) A (keyKind' vs.toArray) Q E s2)/\
  ∀ (E:Value->Shared->Prop) (x y:Value) (Q:Bool->Shared->Prop),ok x->ok y->Q (O.blt (ky x) (ky y)) s2->wpAny (model prog w) A (keyLt' kd x y) Q E s2
end TS
end
namespace TS
set_option autoImplicit false
open PySem PyProof PyProof.Rows PySem.SeqAt
open PySem.MeetsSeq PySem.MeetsSeq2 PySem.MeetsSeq3
inductive Rs (A:Around) (s:Shared) (b:Bool):List ((Value×Value)×Nat)->Bool->Bool->Prop
 | nil (d:Bool):Rs A s b [] d d
 | eq {p q:Value} {i:Nat} {rest:List ((Value×Value)×Nat)} {d r:Bool} (h:EqAt A s p q true) (t:Rs A s b rest d r):Rs A s b (((p,q),i)::rest) d r
 | ne {p q:Value} {i:Nat} {rest:List ((Value×Value)×Nat)} {d l:Bool} (h:EqAt A s p q false) (t: ∀ (prog:Program) (w:World) (E:Value->Shared->Prop) (Q:Bool->Shared->Prop),Q l s->wpAny (model prog w) A (oneLt' (b && i==0) p q) Q E s):Rs A s b (((p,q),i)::rest) d l
section
variable {prog:Program} {w:World} {A:Around} {s:Shared}
def zn5 (h:Heap) (v:Value) (ns:List Int):Prop:= ∃ (a:Addr) (its:List Value),v= .ref a/\IsTup h a its.toArray/\IntsAre its ns
end
end TS
namespace TS
set_option autoImplicit false
open PySem PyProof PyProof.Rows PySem.SeqAt
def ziK (h:Heap) (v:Value):Prop:= ∃ (a:Addr) (xs:Array Value) (n:Int) (t:Tok),v= .ref a/\IsTup h a xs/\xs[0]? = some (.int n t)
section
variable {prog:Program} {w:World} {A:Around} {s:Shared}
theorem zmf {v:Value} (h:ziK s.heap v) {E:Value->Shared->Prop}:wpAny (model prog w) A (firstOfTuple' v) (fun r s'=>s'=s/\ ∃ n t,r=some (.int n t)) E s:=by
 obtain ⟨a,xs,n,t,rfl,⟨o,e1,e2,m,d⟩,hx⟩:=h
 refine qaW (wpAny_typeOf (T:="tuple") ⟨o,e1,e2⟩ ?_)
 have:(Value.type "tuple" != Value.type "tuple")=false:=by rfl
 rw [this]
 refine qaW (listItems_at e1 d (qaX ⟨rfl,n,t,hx⟩))
theorem zgr {E:Value->Shared->Prop}: ∀ (vs:List Value),(∀ v,v∈vs->ziK s.heap v)->wpAny (model prog w) A (vs.mapM firstOfTuple') (fun r s'=>s'=s/\ ∃ us ns,IntsAre us ns/\r=us.map some/\us.length=vs.length) E s
 | [],_=>by rw [List.mapM_nil];exact qaX ⟨rfl,[],[],.nil,rfl,rfl⟩
 | v::vs,h=>by
  rw [List.mapM_cons]
  refine qaW (qaZ (zmf (h v (qau ..))) ?_ fun _ _ e=>e)
  rintro r s' ⟨es,n,t,rfl⟩
  rw [es]
  refine qaW (qaZ (zgr vs fun u hu=>h u (qan _ hu)) ?_ fun _ _ e=>e)
  rintro r s' ⟨es,us,ns,h1,rfl,h3⟩
  rw [es]
  exact qaX ⟨rfl,.int n t::us,n::ns,.cons n t h1,rfl,by simp [h3]⟩
theorem zn2 {vs:List Value} (h: ∀ v,v∈vs->ziK s.heap v) (h0:2<=vs.length) {E:Value->Shared->Prop} {Q:SortKind->Shared->Prop} (hq:Q (tuples' true) s):wpAny (model prog w) A (keyKind' vs.toArray) Q E s:=by
 rw [keyKind'_eq,List.mapM_toArray,map_eq_pure_bind,bind_assoc]
 refine qaW (qaZ (zgr vs h) ?_ fun _ _ e=>e)
 rintro r s' ⟨rfl,us,ns,h1,rfl,h3⟩
 rw [pure_bind]
 rw [qa4 (by simp)]
 refine qaW (wpAny_rule ?_)
 have e1:Array.filterMap id (us.map some).toArray=us.toArray:=by simp
 rw [e1,oneTypeOnly'_eq,List.mapM_toArray,mapM_typeOf_ints h1]
 simp only [map_pure,pure_bind]
 obtain ⟨u,us',rfl⟩: ∃ u us',us=u::us':=by
  cases us with
  | nil=>simp at h3;omega
  | cons u us'=>exact ⟨u,us',rfl⟩
 have hall:((List.map (fun _=>Value.type "int") (u::us')).toArray.all fun x=>x==Value.type "int")=true:=by
  simp only [List.all_toArray,List.all_map,List.all_eq_true]
  intro _ _
  rfl
 have h0':(List.map (fun _=>Value.type "int") (u::us')).toArray[0]? = some (Value.type "int"):=by simp
 rw [h0']
 simp only [hall,if_true,pure_bind]
 exact qaX hq
end
theorem zn5.keep {h h':Heap} {v:Value} {p:List Int} (k: ∀ b o,h.get? b=some o->h'.get? b=some o):zn5 h v p->zn5 h' v p:=fun ⟨a,its,e,⟨o,x1,x2⟩,z⟩=>⟨a,its,e,⟨o,k _ _ x1,x2⟩,z⟩
structure KR where
 O:KeyOrd
 dflt:O.α
 At:Heap->Value->O.α->Prop
 inj: ∀ {h v p q},At h v p->At h v q->p=q
 keep: ∀ {h h':Heap} {v p},(∀ b o,h.get? b=some o->h'.get? b=some o)->At h v p->At h' v p
 first: ∀ {h v p},At h v p->ziK h v
 lt: ∀ {prog:Program} {w:World} {A:Around} {s:Shared} {E:Value->Shared->Prop} {Q:Bool->Shared->Prop} {u v p q},At s.heap v p->At s.heap u q->A.units+2<cLine->Q (O.blt p q) s->wpAny (model prog w) A (keyLt' (tuples' true) v u) Q E s
open Classical in
noncomputable def KR.ky (k:KR) (h:Heap) (v:Value):k.O.α:=if e: ∃ p,k.At h v p then e.choose else k.dflt
theorem KR.ky_eq {k:KR} {h:Heap} {v:Value} {p:k.O.α} (e:k.At h v p):k.ky h v=p:=by
 unfold KR.ky
 rw [dif_pos ⟨p,e⟩]
 exact k.inj (Exists.choose_spec ⟨p,e⟩) e
theorem KR.srt (k:KR) {prog:Program} {w:World} {A:Around} {vs:List Value} {s1:Shared} (hr:A.units+2<cLine) (h: ∀ v,v∈vs-> ∃ p,k.At s1.heap v p):Srt prog w A vs s1 (tuples' true) k.O (k.ky s1.heap) (fun v=> ∃ p,k.At s1.heap v p):=by
 refine ⟨h,fun s2 hk=>⟨fun h2 E Q hq=>zn2 (fun v hv=> ?_) h2 hq,fun E x y Q hx hy hq=> ?_⟩⟩
 ·obtain ⟨p,hp⟩:=h v hv
  exact k.first (k.keep hk hp)
 ·obtain ⟨p,hp⟩:=hx
  obtain ⟨q,hq'⟩:=hy
  rw [KR.ky_eq hp,KR.ky_eq hq'] at hq
  exact k.lt (k.keep hk hp) (k.keep hk hq') hr hq
end TS
namespace TS
set_option autoImplicit false
open PySem PyProof.Rows
end TS
namespace L2
open PySem PySem.Spec PyProof.Rows TS
section
variable {X:L2.Cx}
end
end L2
namespace L3
open PySem PySem.Spec PyProof.Rows L2 TS
section
variable {X:L2.Cx} {E:XE}
end
end L3
namespace L3
open PySem PySem.Spec PyProof.Rows L2
section
variable {X:Cx} {E:XE}
noncomputable def zqQ:D->Option Bool
 | .non=>some true
 | .int _=>some false
 | .tup _=>some false
 | .lst _=>some false
 | _=>none
noncomputable def zkY (x y:D):M D:=match y with
 | .non=>do let b<-ofO (zqQ x);pure (.bl b)
 | _=>M.bad
noncomputable def zhR (x y:D):M D:=match y with
 | .non=>do let b<-ofO (zqQ x);pure (.bl (!b))
 | _=>M.bad
theorem zif {K:W.Frag} {ι:Io} {H:Hp} {x:D} {v:V} {u:Value} {b:Bool} (r:Rel K ι H x v) (rv:zby v u) (e:zqQ x=some b):(u=Value.none/\b=true)\/(u≠Value.none/\b=false):=by
 cases x with
 | non=>
  simp only [Rel] at r
  subst r
  cases rv
  cases e
  exact .inl ⟨rfl,rfl⟩
 | int i=>
  simp only [Rel] at r
  subst r
  obtain ⟨t,rfl⟩:=rv
  cases e
  exact .inr ⟨(fun z=>by cases z),rfl⟩
 | tup ds=>
  obtain ⟨a,vs,rfl,_,_⟩:=zdt r
  cases rv
  cases e
  exact .inr ⟨(fun z=>by cases z),rfl⟩
 | lst ds=>
  obtain ⟨a,vs,rfl,_,_⟩:=zdG r
  cases rv
  cases e
  exact .inr ⟨(fun z=>by cases z),rfl⟩
 | _=>cases e
theorem zim:OpR X (compareOp .Is) (zdr X.K E zkY):=by
 intro pins s σ H x y v u Q I rx ry ⟨ι,h,d1,d2,r1,r2,hr,q⟩
 cases d2 with
 | non=>
  obtain ⟨b,eb,q⟩:=Fin.ofOb (show Fin X.K E ι H ((do let b<-ofO (zqQ d1);pure (.bl b):M D) h) _ from q)
  simp only [Rel] at r2
  subst r2
  cases ry
  rcases zif r1 rx eb with ⟨rfl,rfl⟩ | ⟨hv,rfl⟩
  ·exact is_none_none (zgN I (Fin.out hr q _ (by simp [Rel])) rfl)
  ·exact is_none_ne hv (zgN I (Fin.out hr q _ (by simp [Rel])) rfl)
 | _=>exact qa0 q
theorem zjF:OpR X (compareOp .IsNot) (zdr X.K E zhR):=by
 intro pins s σ H x y v u Q I rx ry ⟨ι,h,d1,d2,r1,r2,hr,q⟩
 cases d2 with
 | non=>
  obtain ⟨b,eb,q⟩:=Fin.ofOb (show Fin X.K E ι H ((do let b<-ofO (zqQ d1);pure (.bl (!b)):M D) h) _ from q)
  simp only [Rel] at r2
  subst r2
  cases ry
  rcases zif r1 rx eb with ⟨rfl,rfl⟩ | ⟨hv,rfl⟩
  ·exact isnot_none_none (zgN I (Fin.out hr q _ (by simp [Rel])) rfl)
  ·exact isnot_none_ne hv (zgN I (Fin.out hr q _ (by simp [Rel])) rfl)
 | _=>exact qa0 q
end
section
variable {X:Cx} {E:XE} {scope:Scope} {N:List Str} {src:List (Option Nat)} {tg iter elt:Expr} {ifs:List Expr} {pos:Pos}
noncomputable def zpd (d:D):M D:=match d with
 | .cel n=>fun h=>match h[n]? with
  | some (.lst ds)=> .ok (.lst ds) (h.set n .dead)
  | _=> .bad
 | _=>M.bad
theorem znW {e:Expr} {f:FE} (he:SE X E e f):SE X E e (cUn zpd f):=by
 refine PE.imp he fun σ H Q ⟨ι,h,sd,L,hh,q⟩=>⟨ι,h,sd,L,hh,Fin.bind q fun d h1 ι1 H1 e1 s1 hr1 q1 v rv=> ?_⟩
 cases d with
 | cel n=>
  simp only [Rel] at rv
  obtain ⟨a,rfl,hn⟩:=rv
  rcases hn with hn | hn
  rotate_left
  ·have hd:=hr1.dead n hn
   have:Fin X.K E ι1 H1 (match h1[n]? with | some (.lst ds)=>R.ok (D.lst ds) (h1.set n .dead) | _=> .bad) _:=q1
   rw [hd] at this
   exact qa0 this
  have hlt:=(qac.mp hn).1
  have hl:=hr1.len
  obtain ⟨c,hc⟩: ∃ c,h1[n]? = some c:=⟨h1[n],by simp [hl,hlt]⟩
  obtain ⟨ds,vs,rfl,e2,rl⟩: ∃ ds vs,c= .lst ds/\H1 a=some (.lst vs)/\zat X.K ι1 H1 ds vs:=by
   obtain ⟨o,e1,e2⟩:=hr1.at_ n a c hn hc
   cases c with
   | lst ds=>obtain ⟨vs,rfl,rl⟩:=e2;exact ⟨ds,vs,rfl,e1,rl⟩
   | dic kvs=>
    have:Fin X.K E ι1 H1 (match h1[n]? with | some (.lst ds)=>R.ok (D.lst ds) (h1.set n .dead) | _=> .bad) _:=q1
    rw [hc] at this
    exact qa0 this
   | dead=>exact qa0 e2
  have q2:Fin X.K E ι1 H1 (.ok (.lst ds) (h1.set n .dead)) fun d ι' H'=> ∀ v,Rel X.K ι' H' d v->Q v H':=by
   have:Fin X.K E ι1 H1 (match h1[n]? with | some (.lst ds)=>R.ok (D.lst ds) (h1.set n .dead) | _=> .bad) _:=q1
   rw [hc] at this
   exact this
  have mem: ∀ b,some b∈ι1.c.set n none->some b∈ι1.c:=fun b hb=>by
   rcases List.mem_or_eq_of_mem_set hb with z | z
   ·exact z
   ·cases z
  have st:zbJ ι1 H1 ⟨ι1.c.set n none,ι1.x⟩ H1:=by
   refine ⟨fun k o hk=> ?_,fun b hb=> .inl (mem b hb),rfl,fun _ _=>rfl,fun _ _ h _=>h⟩
   by_cases hkn:n=k
   ·subst hkn
    right
    show (ι1.c.set n none)[n]? = _
    rw [qai hlt]
   ·left
    show (ι1.c.set n none)[k]? = _
    rw [qao hkn]
    exact hk
  have hna:some a∉ι1.c.set n none:=fun z=>by
   obtain ⟨k,hk⟩:=List.getElem?_of_mem z
   by_cases hkn:n=k
   ·subst hkn
    rw [qai hlt] at hk
    cases hk
   ·rw [qao hkn] at hk
    exact hkn (hr1.inj n k a hn hk)
  have hrn:za9 X.K ⟨ι1.c.set n none,ι1.x⟩ H1 (h1.set n .dead):=by
   refine ⟨by simp [hl],fun i j b hi hj=> ?_,fun k b c' hk hc'=> ?_,fun k hk=> ?_,fun b hb=>⟨(hr1.hidt b hb).1,fun z=>(hr1.hidt b hb).2 (mem b z)⟩⟩
   ·have hi:(ι1.c.set n none)[i]? = some (some b):=hi
    have hj:(ι1.c.set n none)[j]? = some (some b):=hj
    have key: ∀ k,(ι1.c.set n none)[k]? = some (some b)->ι1.c[k]? = some (some b):=fun k hk=>by
     by_cases hkn:n=k
     ·subst hkn
      rw [qai hlt] at hk
      cases hk
     ·rw [qao hkn] at hk
      exact hk
    exact hr1.inj i j b (key i hi) (key j hj)
   ·have hk:(ι1.c.set n none)[k]? = some (some b):=hk
    by_cases hkn:n=k
    ·subst hkn
     rw [qai hlt] at hk
     cases hk
    ·rw [qao hkn] at hk hc'
     obtain ⟨o',x2,x3⟩:=hr1.at_ k b c' hk hc'
     exact ⟨o',x2,x3.pass st.pass⟩
   ·have hk:(ι1.c.set n none)[k]? = some none:=hk
    by_cases hkn:n=k
    ·subst hkn
     rw [qai (by omega)]
    ·rw [qao hkn] at hk ⊢
     exact hr1.dead k hk
  refine q2 _ _ st hrn (.ref a) ?_
  simp only [Rel]
  refine ⟨a,vs,rfl,⟨e2,fun z=> ?_⟩,rl.step st⟩
  rcases z with z | z
  ·exact hna z
  ·exact (hr1.hidt a z).2 (List.mem_of_getElem? hn)
 | _=>exact qa0 q1
end
end L3
namespace L3
open PySem
open Sem (wp)
open AutoSeq1 (wpAny_loadPart')
section
variable {prog:Program} {w:World} {A:Around} {E:Value->Shared->Prop} {s:Shared}
end
end L3
namespace L2
open PySem PySem.Spec PyProof.Rows
section
variable {X:Cx} {elts:List Expr} {k:Nat} {tpos:Pos}
end
end L2
namespace L3
open PySem PySem.Spec PyProof.Rows L2
section
variable {X:Cx} {E:XE} {elts:List Expr} {k:Nat} {tpos pos:Pos}
noncomputable def zeT (fs:FA):FA:=fun sd=>do let ds<-fs sd;zkd ds
theorem zlm {tg a b:Expr} {p:Pos} {fs:FA} (hm:X.mg "range"=none) (ha:SA X E [a,b] fs) (hg:Gl X "range":=by rfl) (hs:starEach [a,b] X.env=[(false,eval a X.env),(false,eval b X.env)]:=by rfl) (hs2:starEach [b] X.env=[(false,eval b X.env)]:=by rfl):
  SI X E tg (.Call (.Name "range" p) [a,b] [] pos) (zeT fs):=zo0 (zjC hg hm ha hs hs2)
end
end L3
namespace L2
open PySem PySem.Spec PyProof.Rows
section
variable {κ:Type} [DecidableEq κ]
noncomputable def zmS (kvs:List (κ×V)) (k:κ) (v:V):List (κ×V):=
 if (kvs.any fun kv=>decide (kv.1=k))=true then kvs.map (fun kv=>if kv.1=k then (kv.1,v) else kv) else kvs++[(k,v)]
theorem zhX (kvs:List (κ×V)) (k:κ) (v:V):(zmS kvs k v).length<=kvs.length+1:=by
 unfold zmS
 split
 ·rw [qaH];omega
 ·rw [qav,qaE,qaJ];omega
theorem KV.any {kvs:List (κ×V)} {vs:List (κ×Value)} (r:KV kvs vs) (k:κ):(kvs.any fun kv=>decide (kv.1=k))=vs.any fun kv=>decide (kv.1=k):=by
 unfold KV at r
 induction r with
 | nil=>rfl
 | cons h t ih=>rw [List.any_cons,List.any_cons,ih,h.1]
theorem KV.repl {kvs:List (κ×V)} {vs:List (κ×Value)} (r:KV kvs vs) (k:κ) {y:V} {u:Value} (ry:zby y u):
  KV (kvs.map fun kv=>if kv.1=k then (kv.1,y) else kv) (vs.map fun kv=>if kv.1=k then (kv.1,u) else kv):=by
 unfold KV at r ⊢
 induction r with
 | nil=>exact .nil
 | @cons p q ps qs h t ih=>
  rw [qaM,qaM]
  refine .cons ?_ ih
  obtain ⟨h1,h2⟩:=h
  by_cases e:p.1=k
  ·rw [qa4 e,qa4 (h1.symm.trans e)];exact ⟨h1,ry⟩
  ·rw [qa5 e,qa5 (fun z=>e (h1.trans z))];exact ⟨h1,h2⟩
theorem KV.put {kvs:List (κ×V)} {vs:List (κ×Value)} (r:KV kvs vs) (k:κ) {y:V} {u:Value} (ry:zby y u):KV (zmS kvs k y) (stored vs k u):=by
 unfold zmS stored
 rw [r.any k]
 by_cases e:(vs.any fun kv=>decide (kv.1=k))=true
 ·rw [qa4 e,qa4 e];exact r.repl k ry
 ·rw [qa5 e,qa5 e];exact Paired.snoc r ⟨rfl,ry⟩
theorem KV.length {kvs:List (κ×V)} {vs:List (κ×Value)} (r:KV kvs vs):kvs.length=vs.length:=Paired.length r
end
theorem zqu {P:Program} {w:World} {k:Key} {u:Value} (r:zby (kV k) u):(zeW P w).is k u=true:=by
 cases k with
 | inl i=>obtain ⟨t,e⟩:=(show ∃ t,u=Value.int i t from r);subst e;exact zhu P w i t
 | inr x=>obtain ⟨t,e⟩:=(show ∃ t,u=Value.str x t from r);subst e;exact zhC P w x t
section
variable {X:Cx}
theorem znI:zoU X (fun x y v H Q=> ∃ a kvs k,x= .ref a/\y=kV k/\H a=some (.dK kvs)/\kvs.length<sizeLine/\Q (upd H a (.dK (zmS kvs k v)))):=by
 intro pins s σ H o i v ov iv u Q I ro ri rv h
 obtain ⟨a,kvs,k,rfl,rfl,e,l,q⟩:=h
 cases ro
 obtain ⟨z,hd,vs,rel,dd⟩:=(show zbM X.prog X.w H s.heap a (.dK kvs) from I.hok a _ e)
 have hz:vs.length<=sizeLine:=by rw [<- rel.length];exact z
 have hl:(zmS kvs k v).length<=sizeLine:=by have:=zhX kvs k v;omega
 refine wpAny_setItem_pairs (hsz:=hz) (zqu ri) dd fun h' dd' hs=>⟨_,?_,q⟩
 have he: ∃ q,h'.get? a=some q:=let ⟨q,_,_,hq,_⟩:=dd';⟨q,hq⟩
 exact I.write (x:=a) (e:=a) (by rw [e];exact True.intro) (.inl rfl) (fun b q hb z=>(hs.2 b hb).trans z) he ⟨hl,hd,_,rel.put k rv,dd'⟩
end
end L2
namespace L3
open PySem PySem.Spec PyProof.Rows L2
section
variable {X:L2.Cx} {E:XE}
noncomputable def zfj (kvs:List (Int×D)) (k:Int) (d:D):List (Int×D):=
 if (kvs.any fun p=>decide (p.1=k))=true then kvs.map (fun p=>if p.1=k then (p.1,d) else p) else kvs++[(k,d)]
noncomputable def zcy (n:Nat):M (List (Int×D)):=fun h=>match h[n]? with
 | some (.dic kvs)=> .ok kvs h
 | _=> .bad
noncomputable def zfb (n:Nat) (kvs:List (Int×D)):M Unit:=fun h=> .ok () (h.set n (.dic kvs))
noncomputable def zqw:FE:=fun _ h=> .ok (.cel h.length) (h++[.dic []])
theorem zpA {pos:Pos}:SE X E (.Dict [] [] pos) zqw:=by
 refine PE.imp zlH fun σ H Q ⟨ι,h,sd,L,hh,q⟩ p hp=> ?_
 exact zq9 (E:=E) hh (c0:= .dic []) ⟨[],rfl,.nil⟩ q hp
noncomputable def zmC (o k d:D):M Unit:=match o,k with
 | .cel n,.int k=>do
  let kvs<-zcy n
  fits (kvs.length+1)
  zfb n (zfj kvs k d)
 | _,_=>M.bad
noncomputable def zrE (fo fi:FE):D->Sd->M Sd:=fun d sd=>do let x<-fo sd;let y<-fi sd;zmC x y d;pure sd
theorem zoF {K:W.Frag} {ι:Io} {H:Hp} {kvs:List (Int×D)} {vs:List (Key×V)} {k:Int} {d:D} {v:V} (r:Paired (fun (p:Int×D) (q:Key×V)=>q.1= .inl p.1/\Rel K ι H p.2 q.2) kvs vs) (rv:Rel K ι H d v):
  Paired (fun (p:Int×D) (q:Key×V)=>q.1= .inl p.1/\Rel K ι H p.2 q.2) (zfj kvs k d) (zmS vs (.inl k) v):=by
 have ha:(kvs.any fun p=>decide (p.1=k))=(vs.any fun p=>decide (p.1=(.inl k:Key))):=by
  induction r with
  | nil=>rfl
  | @cons p q ps qs h t ih=>
   rw [List.any_cons,List.any_cons,ih,h.1]
   congr 1
   rw [Bool.eq_iff_iff]
   simp only [qaD]
   exact ⟨fun z=>by rw [z],fun z=>by injection z⟩
 unfold zfj zmS
 rw [ha]
 by_cases e:(vs.any fun p=>decide (p.1=(.inl k:Key)))=true
 ·rw [qa4 e,qa4 e]
  clear ha e
  induction r with
  | nil=>exact .nil
  | @cons p q ps qs h t ih=>
   rw [qaM,qaM]
   refine .cons ?_ ih
   by_cases e:p.1=k
   ·rw [qa4 e,qa4 (by rw [h.1,e])];exact ⟨h.1,rv⟩
   ·rw [qa5 e,qa5 (fun z=>e (by rw [h.1] at z;injection z))];exact h
 ·rw [qa5 e,qa5 e]
  exact Paired.snoc r ⟨rfl,rv⟩
theorem zmY {o i:Expr} {pos:Pos} {fo fi:FE} (ho:SE X E o fo) (hi:SE X E i fi)
  (ha: ∀ v,assign (.Subscript o i pos) X.env v=(do
    let ov<-holding [v] (eval o X.env)
    let iv<-holding [v,ov] (eval i X.env)
    standAt pos
    holding [v,ov,iv] (setItem ov iv v)
    release [v,ov,iv] []):=by intro _;rfl):SG X E (.Subscript o i pos) (zrE fo fi):=by
 refine PG.imp (zm4 ho hi znI ha) fun v σ H Q ⟨ι,h,sd,d,L,hr,rd,q⟩=>⟨ι,h,sd,L,hr,Fin.bind q fun x h1 ι1 H1 e1 s1 hr1 q1 xv rx=> ?_⟩
 refine ⟨ι1,h1,sd,L.step s1,hr1,Fin.bind q1 fun y h2 ι2 H2 e2 s2 hr2 q2 yv ry=> ?_⟩
 cases x with
 | cel n=>
  cases y with
  | int k=>
   have rx2:=rx.step s2
   have q3:Fin X.K E ι2 H2 ((zcy n>>=fun kvs=>(fits (kvs.length+1)>>=fun _=>zfb n (zfj kvs k d)>>=fun _=>pure sd)) h2) (fun sd' ι' H'=> ∀ σ',zcF X.K ι' H' sd' σ'->Q σ' H'):=by
    have e:(do zmC (.cel n) (.int k) d;pure sd:M Sd)=(zcy n>>=fun kvs=>(fits (kvs.length+1)>>=fun _=>zfb n (zfj kvs k d)>>=fun _=>pure sd)):=by
     show ((zcy n>>=fun kvs=>(fits (kvs.length+1)>>=fun _=>zfb n (zfj kvs k d)))>>=fun _=>pure sd)=_
     rw [bind_assoc]
     congr 1
     funext kvs
     rw [bind_assoc]
    rw [<- e]
    exact q2
   simp only [Rel] at rx2 ry
   obtain ⟨a,rfl,hn⟩:=rx2
   have q4:Fin X.K E ι2 H2 (M.bind (zcy n) (fun kvs=>(fits (kvs.length+1)>>=fun _=>zfb n (zfj kvs k d)>>=fun _=>pure sd)) h2) (fun sd' ι' H'=> ∀ σ',zcF X.K ι' H' sd' σ'->Q σ' H'):=q3
   unfold M.bind zcy at q4
   rcases hn with hn | hn
   ·have hl:=hr2.len
    have hlt:=(qac.mp hn).1
    obtain ⟨c,hc⟩: ∃ c,h2[n]? = some c:=⟨h2[n],by simp [hl,hlt]⟩
    rw [hc] at q4
    obtain ⟨ob,e3,co⟩:=hr2.at_ n a c hn hc
    cases c with
    | dic kvs=>
     obtain ⟨vs,rfl,rp⟩:=co
     obtain ⟨hf,q5⟩:=Fin.fits q4
     have hlen:kvs.length=vs.length:=Paired.length rp
     refine ⟨a,vs,.inl k,rfl,ry,e3,by omega,?_⟩
     have rd2:=(rd.step s1).step s2
     refine q5 ι2 _ (hr2.cellS hn) (hr2.cellO hn (c':= .dic (zfj kvs k d)) ⟨_,rfl,zoF rp rd2⟩) σ ?_
     exact ((L.step s1).step s2).step (hr2.cellS hn)
    | lst ds=>exact qa0 q4
    | dead=>exact qa0 q4
   ·rw [hr2.dead n hn] at q4
    exact qa0 q4
  | _=>exact qa0 q2
 | _=>exact qa0 q2
end
open LT
section
variable {h:Hh}
theorem zhK {n:Nat} {kvs:List (Int×D)} {P:List (Int×D)->Hh->Prop} (e:h[n]? = some (.dic kvs)):wp (zcy n) h P↔P kvs h:=by
 unfold wp zcy
 rw [e]
 exact ⟨fun ⟨b,h',e,q⟩=>by cases e;exact q,fun q=>⟨_,_,rfl,q⟩⟩
theorem zlr {n:Nat} {kvs:List (Int×D)} {P:Unit->Hh->Prop}:wp (zfb n kvs) h P↔P () (h.set n (.dic kvs)):=⟨fun ⟨b,h',e,q⟩=>by cases (show R.ok () (h.set n (.dic kvs))=R.ok b h' from e);exact q,fun q=>⟨_,_,rfl,q⟩⟩
theorem zlo {sd:Sd} {P:D->Hh->Prop}:wp (zqw sd) h P↔P (.cel h.length) (h++[.dic []]):=⟨fun ⟨b,h',e,q⟩=>by cases (show R.ok (D.cel h.length) (h++[C.dic []])=R.ok b h' from e);exact q,fun q=>⟨_,_,rfl,q⟩⟩
theorem zmW {a b:FE} {d:D} {sd:Sd}:zrE a b d sd=(do let x<-a sd;let y<-b sd;zmC x y d;pure sd):=rfl
theorem zm6 {n:Nat} {k:Int} {d:D}:zmC (.cel n) (.int k) d=(do let kvs<-zcy n;fits (kvs.length+1);zfb n (zfj kvs k d)):=rfl
end
end L3
namespace L3
open PySem PySem.Spec PyProof.Rows L2
structure Fd (K:W.Frag) (x:Str) (st:Stmt) (a:Addr) (d:FuncData):Prop where
 e:W.nsIn K mainGlobals x=some (some (.ref a))
 F:Fun K x x st a d
section
variable {X:Cx} {E:XE}
end
end L3
namespace L3
open PySem PyProof.Rows HT
section
open PySem.SeqAt
open PySem.AutoSeq1 (wpAny_loadPart')
open PySem.MeetsSeq PySem.MeetsSeq2 PySem.MeetsSeq3
end
section
variable {prog:Program} {w:World} {A:Around} {E:Value->Shared->Prop} {s:Shared}
end
end L3
namespace L3
open PySem PyProof.Rows
section
open PySem.SeqAt
open PySem.AutoSeq1 (wpAny_loadPart')
open PySem.MeetsSeq PySem.MeetsSeq2 PySem.MeetsSeq3
section
variable {prog:Program} {w:World} {A:Around} {E:Value->Shared->Prop} {s:Shared}
end
end
open PySem.Spec L2
section
variable {X:Cx} {E:XE}
end
end L3
namespace L2
open PySem PySem.Spec PyProof.Rows
section
variable {X:Cx}
theorem zll:zaM X (.builtin "abs") (fun xs H Q=> ∃ i,xs=[.int i]/\Q (.int (if i<0 then -i else i)) H):=by
 intro pins s σ H xs us Q I r h
 obtain ⟨i,rfl,q⟩:=h
 obtain ⟨u,rfl,t,rfl⟩:=zd5 r
 exact call_abs_int fun u tk=>⟨.int (if i<0 then -i else i),H,I.tok _,⟨_,rfl⟩,q⟩
end
end L2
namespace L3
open PySem PySem.Spec PyProof.Rows L2
section
variable {X:Cx} {E:XE}
noncomputable def zqS:List D->M D
 | [.int i]=>pure (.int (if i<0 then -i else i))
 | _=>M.bad
theorem zgK:zaM X (.builtin "abs") (zhs X.K E zqS):=by
 refine zaM.imp zll fun xs H Q ⟨ι,h,ds,rl,hr,q⟩=> ?_
 unfold zqS at q
 split at q
 ·simp only [zat,Rel] at rl
  obtain ⟨v,r,rfl,rfl,rfl⟩:=rl
  exact ⟨_,rfl,Fin.out hr q _ (by simp [Rel])⟩
 ·exact qa0 q
noncomputable def zpl (i j:Nat) (fs:FA):FS:=fun sd=>do let ds<-fs sd;match ds with | [d,d']=>pure (.nx ((sd.set i (some d)).set j (some d'))) | _=>M.bad
theorem zpG {x y:Str} {a b:Expr} {fs:FA} {px py pt pos:Pos} {kt k2 pt2} (i j:Nat) (hc:X.calm=true) (hN:X.N.Nodup) (ha:SA X E [a,b] fs) (hi:X.N[i]? = some x:=by rfl) (hj:X.N[j]? = some y:=by rfl) (hij:i≠j:=by decide)
  (hx:X.env.scope.names.lookup x=some .local:=by rfl) (hy:X.env.scope.names.lookup y=some .local:=by rfl)
  (hw:swappedStores [.Tuple [.Name x px,.Name y py] kt pt] (.Tuple [a,b] k2 pt2) X.env=pure (some [x,y]):=by rfl)
  (hs:swapsWithSole [.Tuple [.Name x px,.Name y py] kt pt] (.Tuple [a,b] k2 pt2) pos.line X.env=pure false:=by rfl):
  SS X E (.Assign [.Tuple [.Name x px,.Name y py] kt pt] (.Tuple [a,b] k2 pt2) pos) (zpl i j fs):=zrU (zrg hc hN hi hj hij hx hy ha hw hs)
end
open Classical in
noncomputable def chk (n:Nat) (ds:List D):M Unit:=fun h=>if h[n]? = some (.lst ds) then .ok () h else .bad
section
variable {X:Cx} {E:XE} {scope:Scope} {N:List Str} {src:List (Option Nat)} {tg iter elt:Expr} {ifs:List Expr} {pos:Pos}
end
end L3
namespace L3
open PySem PySem.Spec PyProof.Rows L2
section
variable {X:Cx} {E:XE} {pos:Pos}
noncomputable def zeD (x y:D):M D:=fun h=>match pdH h x,pdH h y with
 | some a,some (.list xs)=>if zgR a xs=true then .ok (.bl (!xs.any (fun y=>PyData.eqv y a))) h else .bad
 | some a,some (.tuple xs)=>if zgR a xs=true then .ok (.bl (!xs.any (fun y=>PyData.eqv y a))) h else .bad
 | _,_=> .bad
theorem zj4 (hu:X.A.units+60<cLine):OpR X (compareOp .NotIn) (zdr X.K E zeD):=by
 intro pins s σ H x y v u Q I rx ry ⟨ι,h,d1,d2,r1,r2,hr,q⟩
 unfold zeD at q
 cases e1:pdH h d1 with
 | none=>rw [e1] at q;exact qa0 q
 | some a=>
  cases e2:pdH h d2 with
  | none=>rw [e1,e2] at q;exact qa0 q
  | some b=>
   rw [e1,e2] at q
   obtain ⟨as,ra⟩:=zho I hr r1 rx e1
   obtain ⟨bs,rb⟩:=zho I hr r2 ry e2
   cases b with
   | list xs=>
    dsimp only at q
    by_cases c:zgR a xs=true
    ·rw [qa4 c] at q
     obtain ⟨c1,c2,c3⟩:=zen c
     exact SeqAt.notIn_list_reads rb ra c2 c1 (by omega) ⟨.bl _,H,I,rfl,q ι H (zbJ.refl _ _) hr (.bl _) (by simp [Rel])⟩
    ·rw [qa5 c] at q
     exact qa0 q
   | tuple xs=>
    dsimp only at q
    by_cases c:zgR a xs=true
    ·rw [qa4 c] at q
     obtain ⟨c1,c2,c3⟩:=zen c
     exact SeqAt.notIn_tuple_reads rb ra c2 c1 (by omega) ⟨.bl _,H,I,rfl,q ι H (zbJ.refl _ _) hr (.bl _) (by simp [Rel])⟩
    ·rw [qa5 c] at q
     exact qa0 q
   | _=>exact qa0 q
end
end L3
namespace L2
open PySem PySem.Spec PyProof.Rows
section
variable {X:Cx}
noncomputable def atK (kvs:List (Key×V)) (k:Key):Option V:=(kvs.find? fun q=>decide (q.1=k)).map (·.2)
theorem zom {kvs:List (Key×V)} {us:List (Key×Value)} (r:KV kvs us) {k:Key} {v:V} (e:atK kvs k=some v): ∃ w,valueAt us k=some w/\zby v w:=by
 unfold KV at r
 induction r with
 | nil=>cases e
 | @cons p q ps qs h t ih=>
  by_cases hk:p.1=k
  ·have e2:atK (p::ps) k=some p.2:=by simp [atK,List.find?_cons,hk]
   rw [e2] at e
   cases e
   exact ⟨q.2,by simp [valueAt,List.find?_cons,h.1.symm.trans hk],h.2⟩
  ·have hk': ¬q.1=k:=fun z=>hk (h.1.trans z)
   have e2:atK (p::ps) k=atK ps k:=by simp [atK,List.find?_cons,hk]
   rw [e2] at e
   obtain ⟨w,hw,rw'⟩:=ih e
   exact ⟨w,by rw [<- hw];simp [valueAt,List.find?_cons,hk'],rw'⟩
theorem zpU:IxR X (fun x y H Q=> ∃ a kvs k v,x= .ref a/\y=kV k/\H a=some (.dK kvs)/\atK kvs k=some v/\Q v H):=by
 intro value slice pins s σ H x y v u Q I rx ry h hs
 obtain ⟨a,kvs,k,z,rfl,rfl,e,l,q⟩:=h
 cases rx
 obtain ⟨zz,hd,vs,rel,dd⟩:=(show zbM X.prog X.w H s.heap a (.dK kvs) from I.hok a _ e)
 obtain ⟨w',hw,rw'⟩:=zom rel l
 exact tail_any dd.typeIs slot_dict_getitem.lookup (wpAny_getItem_of (zqu ry) dd.mapOf hw ⟨z,H,I.tok _,rw',q⟩) hs
theorem zfz: ∀ {ns:List Int} {its:List Value},za2 (ns.map V.int) its-> ∃ xs:List (Int×Tok),its=xs.map (fun p=>Value.int p.1 p.2)/\xs.map (·.1)=ns
 | [],its,r=>by
  cases r
  exact ⟨[],rfl,rfl⟩
 | n::ns,its,r=>by
  cases r with
  | cons r1 r2=>
   obtain ⟨t,rfl⟩:=r1
   obtain ⟨xs,rfl,e⟩:=zfz r2
   exact ⟨(n,t)::xs,rfl,by rw [qaM,e]⟩
noncomputable def zjo (ns:List Int):Int:=ns.getD (argBest (fun i j=>decide (ns.getD i 0>ns.getD j 0)) (ns.length - 1)) 0
theorem zkD (hc:X.calm=true):zaM X (.builtin "max") (fun xs H Q=> ∃ (a:Addr) (ns:List Int),xs=[.ref a]/\SqL X.K H a (ns.map V.int)/\0<ns.length/\Q (.int (zjo ns)) H):=by
 intro pins s σ H xs us Q I r h
 obtain ⟨a,ns,rfl,hq,hpos,q⟩:=h
 obtain ⟨u,rfl,rx⟩:=zd5 r
 cases rx
 obtain ⟨its,r',pl,hz⟩:=I.list hq
 obtain ⟨ps,rfl,en⟩:=zfz r'
 have hl:ps.length=ns.length:=by rw [<- en,qaH]
 have hi:(ps.map fun p=>Value.int p.1 p.2).toArray=intItems ps.toArray:=by simp [intItems]
 rw [hi] at pl
 have hn: ∀ i,numAt ps.toArray i=ns.getD i 0:=fun i=>by
  rw [<- en]
  simp [numAt,List.getD]
 refine max_intList (I.ok.hd hc) pl.isList (by simpa [hl] using hpos) fun v h' tk hv hk=> ?_
 obtain ⟨t,rfl⟩:=intItems_at hv
 refine ⟨.int (zjo ns),H,I.grown (s':={s with heap:=h',toks:=tk}) rfl rfl hk,⟨t,?_⟩,q⟩
 rw [hn]
 have hf:(fun i j=>decide (numAt ps.toArray i>numAt ps.toArray j))=fun i j=>decide (ns.getD i 0>ns.getD j 0):=by
  funext i j
  rw [hn,hn]
 rw [hf]
 unfold zjo
 rw [qaA,hl]
end
end L2
namespace L3
open PySem PySem.Spec PyProof.Rows L2
section
variable {X:L2.Cx} {E:XE}
noncomputable def zec (kvs:List (Int×D)) (k:Int):Option D:=(kvs.find? fun p=>p.1==k).map (·.2)
noncomputable def zqJ (x y:D):M D:=match x,y with
 | .cel n,.int k=>do let kvs<-zcy n;ofO (zec kvs k)
 | _,_=>M.bad
theorem zmm {K:W.Frag} {ι:Io} {H:Hp}: ∀ {kvs:List (Int×D)} {vs:List (Key×V)},Paired (fun (p:Int×D) (q:Key×V)=>q.1= .inl p.1/\Rel K ι H p.2 q.2) kvs vs-> ∀ {k:Int} {d:D},zec kvs k=some d-> ∃ v,atK vs (.inl k)=some v/\Rel K ι H d v:=by
 intro kvs vs r
 induction r with
 | nil=>intro k d e;cases e
 | @cons p q ps qs h t ih=>
  intro k d e
  by_cases hk:p.1=k
  ·have e2:zec (p::ps) k=some p.2:=by simp [zec,List.find?_cons,hk]
   rw [e2] at e
   cases e
   exact ⟨q.2,by simp [atK,List.find?_cons,h.1,hk],h.2⟩
  ·have e2:zec (p::ps) k=zec ps k:=by simp [zec,List.find?_cons,hk]
   rw [e2] at e
   obtain ⟨v,hv,rv⟩:=ih e
   have hk': ¬q.1=(.inl k:Key):=fun z=>hk (by rw [h.1] at z;injection z)
   exact ⟨v,by rw [<- hv];simp [atK,List.find?_cons,hk'],rv⟩
theorem ztr:IxR X (zdr X.K E zqJ):=by
 refine IxR.imp zpU fun x y H Q ⟨ι,h,d1,d2,r1,r2,hr,q⟩=> ?_
 cases d2 with
 | int k=>
  cases d1 with
  | cel n=>
   simp only [Rel] at r1 r2
   obtain ⟨a,rfl,hn⟩:=r1
   have q4:Fin X.K E ι H (M.bind (zcy n) (fun kvs=>L3.ofO (zec kvs k)) h) (fun d ι' H'=> ∀ v,Rel X.K ι' H' d v->Q v H'):=q
   unfold M.bind zcy at q4
   rcases hn with hn | hn
   ·have hl:=hr.len
    have hlt:=(qac.mp hn).1
    obtain ⟨c,hc⟩: ∃ c,h[n]? = some c:=⟨h[n],by simp [hl,hlt]⟩
    rw [hc] at q4
    obtain ⟨ob,e3,co⟩:=hr.at_ n a c hn hc
    cases c with
    | dic kvs=>
     obtain ⟨vs,rfl,rp⟩:=co
     obtain ⟨d,ed,q5⟩:=Fin.ofO hr q4
     obtain ⟨v,ev,rv⟩:=zmm rp ed
     exact ⟨a,vs,.inl k,v,rfl,r2,e3,ev,q5 v rv⟩
    | lst ds=>exact qa0 q4
    | dead=>exact qa0 q4
   ·rw [hr.dead n hn] at q4
    exact qa0 q4
  | _=>exact qa0 q
 | _=>cases d1<;>exact qa0 q
theorem zpN {a b:Expr} {fa fb:FE} {pos:Pos} (ha:SE X E a fa) (hb:SE X E b fb) (hs:zeN b:=by intro _ _;rfl):SE X E (.Subscript a b pos) (cOp zqJ fa fb):=zq7 ztr ha hb hs
noncomputable def zhH (fi:FA) (g:D->Sd->M Sd) (gb:FS):FS:=fun sd=>do let ds<-fi sd;noX (zaL (fun x sd=>do let sd1<-g x sd;gb sd1) ds sd)
theorem zqI {tg iter:Expr} {body:List Stmt} {pos:Pos} {fi:FA} {g:D->Sd->M Sd} {gb:FS} (hN:SS X.nox E0x (.For tg iter body [] pos) (zgm fi g gb)) (hi:SI X E tg iter fi)
  (hs: ∀ x,foldedSetIterable iter X.env x=pure x:=by intro _;rfl):SS X E (.For tg iter body [] pos) (zhH fi g gb):=by
 intro pins s σ H D0 I ⟨ι,h,sd,L,hh,q⟩
 cases e:fi sd h with
 | ok ds h1=>
  have e1:zhH fi g gb sd h=noX (zgm fi g gb sd) h:=by
   show M.bind (fi sd) (fun ds=>noX (zaL _ ds sd)) h=noX (M.bind (fi sd) (fun ds=>zaL _ ds sd)) h
   unfold noX M.bind
   rw [e]
  rw [e1] at q
  exact qaZ (hN pins s σ H D0 (I.wish _) ⟨ι,h,sd,L,hh,Fin.noX q⟩) (fun _ _ q=>q.unwish) fun _ _ z=>qa0 z
 | exc c h1=>
  have e1:zhH fi g gb sd h= .exc c h1:=by
   show M.bind (fi sd) _ h=_
   unfold M.bind
   rw [e]
  rw [e1] at q
  refine wpAny_For (thn (hi pins s σ H (fun _ _=>False) I ⟨ι,h,sd,L,hh,by rw [e];exact q⟩) fun v s1 h1=>thn h1 fun itv s2 h2=> ?_) hs
  obtain ⟨_,_,_,_,_,_,_,_,_,_,z⟩:=h2
  exact z.elim
 | bad=>
  have e1:zhH fi g gb sd h= .bad:=by
   show M.bind (fi sd) _ h=_
   unfold M.bind
   rw [e]
  rw [e1] at q
  exact qa0 q
noncomputable def zlD:List D->M D:=zmU fun d=>do
 let ds<-zlK d
 let ns<-ofO (match d with | .tup _=>none | _=>zcP ds)
 if 0<ns.length then pure (.int (zjo ns)) else M.bad
theorem zfy (hc:X.calm=true):zaM X (.builtin "max") (zhs X.K E zlD):=by
 refine zaM.imp (zkD hc) fun xs H Q ⟨ι,h,ds,rl,hr,q⟩=> ?_
 obtain ⟨d,v,e,r,q⟩:=zcD rl q
 obtain ⟨a,vs,ds',e',hs,rl',q⟩:=zdC hr r q
 obtain ⟨ns,ep,q⟩:=Fin.ofOb q
 rcases hs with ⟨hs,hd⟩ | ⟨hs,hd⟩
 ·have ep':zcP ds'=some ns:=by
   cases d with
   | tup ts=>exact absurd rfl (hd ts)
   | _=>exact ep
  have ev:=zcC rl' ep'
  subst ev
  by_cases hn:0<ns.length
  ·rw [qa4 hn] at q
   exact ⟨a,ns,by rw [e,e'],hs,hn,Fin.out hr q _ (by simp [Rel])⟩
  ·rw [qa5 hn] at q
   exact qa0 q
 ·subst hd
  cases ep
theorem zmp:OpR X (binaryOp .FloorDiv) (rI (fun _ j=>0<j/\j<2^8000) fun i j=> .int (i / j)):=opI fun i j _ _ _ _ _ hc q=>by
 refine floordiv_int (by omega) (by rw [Int.fdiv_eq_ediv_of_nonneg _ (by omega)];exact q) (.inl (PyProof.noPylong_of_log2 ?_))
 have h1:j.natAbs<2^8000:=by omega
 have h0:j.natAbs≠0:=by omega
 exact Nat.lt_trans ((Nat.log2_lt h0).mpr h1) (by decide)
noncomputable def zeI:=dII (fun _ j=>decide (0<j) && decide (j<2^8000)) fun i j=> .int (i / j)
theorem zev:OpR X (binaryOp .FloorDiv) (zdr X.K E zeI):=ziV zmp (fun i j h=>by simpa using h) fun _ _ _ _=>by simp [Rel]
end
open LT
def Gro (h h':Hh):Prop:= ∃ t,h'=h++t
theorem Gro.refl {h:Hh}:Gro h h:=⟨[],by simp⟩
theorem Gro.trans {h h1 h2:Hh} (a:Gro h h1) (b:Gro h1 h2):Gro h h2:=by
 obtain ⟨t,rfl⟩:=a
 obtain ⟨u,rfl⟩:=b
 exact ⟨t++u,by simp⟩
theorem Gro.get {h h':Hh} {n:Nat} {c:C} (g:Gro h h') (e:h[n]? = some c):h'[n]? = some c:=by
 obtain ⟨t,rfl⟩:=g
 rw [qad (qac.mp e).1]
 exact e
theorem Gro.ext {b:Nat} {h h':Hh} (q:Bx b h) (g:Gro h h'):Ext b h h':=by
 obtain ⟨z,e⟩:=q
 exact ⟨⟨z,g.get e⟩,fun n c _ e=>g.get e⟩
def Ev {α:Type} (m:M α) (a:α):Prop:= ∀ h, ∃ h',m h= .ok a h'/\Gro h h'
section
variable {α β:Type} {m:M α} {a:α} {f:α->M β} {b:β} {h:Hh} {P:α->Hh->Prop}
theorem Ev.pure:Ev (Pure.pure a:M α) a:=fun h=>⟨h,rfl,.refl⟩
theorem Ev.of (e:m=Pure.pure a):Ev m a:=e▸ .pure
theorem Ev.bind (x:Ev m a) (y:Ev (f a) b):Ev (m>>=f) b:=fun h=>by
 obtain ⟨h1,e1,g1⟩:=x h
 obtain ⟨h2,e2,g2⟩:=y h1
 refine ⟨h2,?_,g1.trans g2⟩
 show M.bind m f h=_
 unfold M.bind
 rw [e1]
 exact e2
theorem Ev.wp (x:Ev m a) (k: ∀ h',Gro h h'->P a h'):wp m h P:=by
 obtain ⟨h1,e1,g1⟩:=x h
 exact ⟨a,h1,e1,k h1 g1⟩
theorem Ev.of_wp (x: ∀ h,L3.wp m h fun r h'=>r=a/\Gro h h'):Ev m a:=fun h=>by
 obtain ⟨r,h1,e1,rfl,g⟩:=x h
 exact ⟨h1,e1,g⟩
theorem Ev.noX (x:Ev m a):Ev (L3.noX m) a:=fun h=>by
 obtain ⟨h1,e1,g1⟩:=x h
 refine ⟨h1,?_,g1⟩
 unfold L3.noX
 rw [e1]
end
@[simp] theorem zlN {α:Type} {a:α}:noX (pure a:M α)=pure a:=rfl
theorem znn {α:Type} {m:M α} {h:Hh} {P:α->Hh->Prop} (q:wp m h P):wp (noX m) h P:=by
 obtain ⟨a,h',e,q⟩:=q
 refine ⟨a,h',?_,q⟩
 unfold noX
 rw [e]
noncomputable def zgQ {α:Type} (c:String):M α:=fun h=> .exc c h
@[simp] theorem ziX {α β:Type} {c:String} {f:α->M β}:((zgQ c:M α)>>=f)=zgQ c:=rfl
@[simp] theorem zl9 {c:String} {sd:Sd}:zgY c sd=zgQ c:=rfl
theorem zkV {names:List String} {gb:FS} {F:List D->M D} {sd:Sd} {o:Out} (e:gb sd=pure o):zge names gb F sd=pure o:=by
 funext h
 unfold zge
 rw [e]
 rfl
theorem znU {names:List String} {gb:FS} {F:List D->M D} {sd:Sd} {o:Out} (x:Ev (gb sd) o):Ev (zge names gb F sd) o:=fun h=>by
 obtain ⟨h1,e1,g1⟩:=x h
 refine ⟨h1,?_,g1⟩
 unfold zge
 rw [e1]
theorem zrl {n:Nat} {Fs:List (List D->M D)} {fi:FE} {fs:FA} {sd:Sd}:znJ n Fs fi fs sd=(do let i<-fi sd;let F<-zhd Fs i;let ds<-fs sd;zau n F ds):=rfl
noncomputable def tI (xs:List Int):D:= .tup (xs.map D.int)
noncomputable def zbT (o:List Int×Int):D:= .tup [tI o.1,.int o.2]
noncomputable def zbu (m:Int) (os:List (List Int×Int)):D:= .tup [.int m,.tup (os.map zbT)]
structure Stk (m:Int) (os:List (List Int×Int)):Prop where
 m0:1<=m
 m1:m<=10
 len:os.length<=12
 up: ∀ o∈os,o.1.Pairwise (· < ·)
 bd: ∀ o∈os, ∀ x∈o.1,0<=x/\x<m
 ne: ∀ o∈os,o.1≠[]
 pos: ∀ o∈os,0<o.2
theorem Stk.olen {m:Int} {os:List (List Int×Int)} (s:Stk m os): ∀ o∈os,o.1.length<=10:=fun o ho=>by
 have h:=zep (m:=m) (ts:=o.1.map D.int) (l:=0) (zbI.mpr ⟨s.up o ho,fun x hx=>s.bd o ho x hx⟩) (by have:=s.m0;omega)
 rw [qaH] at h
 have:=s.m1
 omega
theorem zkh {fo fe:FE} {sd:Sd}:zfE fo fe sd=(do let x<-fo sd;zda x;let y<-fe sd;zdz x y):=rfl
theorem znA {n:Nat}:zda (.cel n)=(do let _<-zan n;pure ()):=rfl
theorem zmy {n:Nat} {zs:List D}:zdz (.cel n) (.tup zs)=(do let ds<-zan n;fits (ds.length+zs.length);zbz n (ds++zs);pure .non):=rfl
theorem zmL {xs:List Int} {m:Int} (m0:0<=m) (h:xs.Pairwise (· < ·)) (b: ∀ x∈xs,0<=x/\x<m):(xs.length:Int)<=m:=by
 have:=zep (m:=m) (ts:=xs.map D.int) (l:=0) (zbI.mpr ⟨h,b⟩) m0
 rw [qaH] at this
 omega
theorem zlY {xs:List Int} {m:Int} (m0:0<=m) (b: ∀ x∈xs,0<=x/\x<m):((zei xs).length:Int)<=m:=zmL m0 (zd0 xs) fun x hx=>b x (zcb.mp hx)
theorem zhL {xs:List Int} {m:Int} (m0:0<=m) (m1:m<=60) (b: ∀ x∈xs,0<=x/\x<m):(xs.foldl step_dedup []).length<64:=by
 have h:=zlY m0 b
 unfold zei at h
 rw [(zax _).length_eq] at h
 omega
theorem zhj {n:Nat} {h:Hh} {xs:List Int} {P:D->Hh->Prop} (e:h[n]? = some (.lst (xs.map D.int))) (h1:(xs.foldl step_dedup []).length<64) (h2:xs.length<4000) (k:P (.lst ((zei xs).map D.int)) h):wp (zbP (.cel n)) h P:=by
 unfold zbP
 show wp (zan n>>=_) h P
 rw [zaj,zbN e]
 show wp (do let ns<-ofO (zcP (xs.map D.int));if (ns.foldl step_dedup []).length<64/\ns.length<4000 then pure (.lst ((zei ns).map D.int)) else M.bad:M D) h P
 rw [zbf]
 show wp (if (xs.foldl step_dedup []).length<64/\xs.length<4000 then (pure (.lst ((zei xs).map D.int)):M D) else M.bad) h P
 rw [qa4 ⟨h1,h2⟩,zai]
 exact k
theorem zob: ∀ {xs ys:List Int},xs.Pairwise (· < ·)->ys.Pairwise (· < ·)->(∀ k,k∈xs↔k∈ys)->xs=ys:=by
 intro xs ys hx hy hm
 have nx:xs.Nodup:=hx.imp fun z=>by omega
 have ny:ys.Nodup:=hy.imp fun z=>by omega
 have p:List.Perm xs ys:=(List.perm_ext_iff_of_nodup nx ny).mpr hm
 exact (zem p (hx.imp fun z=>by omega)).trans (zem (List.Perm.refl ys) (hy.imp fun z=>by omega)).symm
theorem zp7 {x y:D} {a b:PyData} (e1:pd x=some a) (e2:pd y=some b) (h:zfM a b=true):dEq x y=pure (.bl (PyData.eqv a b)):=by
 show zjt false x y=_
 unfold zjt
 rw [e1,e2]
 simp only [h,if_true]
 rfl
theorem ziU (xs:List Int):pd (tI xs)=some (.tuple (xs.map PyData.int)):=by unfold tI pd;rw [zcK];rfl
theorem zky (xs ys:List Int):dEq (tI xs) (tI ys)=pure (.bl (xs==ys)):=by
 rw [zp7 (ziU xs) (ziU ys) (by unfold zfM;simp [PyData.canLay0,zaY,PyData.depth,zbc])]
 simp only [PyData.eqv,zet]
theorem zo7 (xs:List Int):zp8 [.lst (xs.map D.int)]=pure (.int xs.sum):=by
 show (do let bs<-ofO (zcP (xs.map D.int));pure (.int bs.sum):M D)=_
 rw [zbf]
 rfl
def gk (d:D):Prop:=kn d=true/\ ∀ ds,d= .tup ds->ds.length<64/\ ∀ x∈ds,kn x=true
theorem zeV {os:List (List Int×Int)} {i:Int} (h0:0<=i) (h1:i<os.length):atI (os.map zbT) i=some (zbT (os.getD i.toNat ([],0))):=by
 have hl:i.toNat<os.length:=by omega
 have:=zfC (xs:=os.map zbT) (j:=i.toNat) (v:=zbT (os.getD i.toNat ([],0))) (by simp [hl,List.getD])
 rw [<- this]
 congr 1
 omega
noncomputable def zfS (os:List (List Int×Int)) (ls:List Int):List (List Int×Int):=ls.map fun i=>os.getD i.toNat ([],0)
theorem zhG (k:Int) (xs:List Int):zhb (.int k) (.lst (xs.map D.int))=pure (.bl (!xs.any (· == k))):=by
 show zlB true (.int k) (.lst (xs.map D.int))=_
 unfold zlB
 simp only [pd]
 rw [zcK]
 have c:zgR (.int k) (xs.map PyData.int)=true:=by
  unfold zgR
  simp [PyData.canLay0,zaY,PyData.depth,zbc]
 simp only [c,if_true,zdL]
theorem zhr {xs:List Int} (h:xs.length<64):ze0 [.lst (xs.map D.int)]=pure (.lst ((zbD xs).map D.int)):=by
 show (do let ns<-ofO (zcP (xs.map D.int));if ns.length<64 then pure (.lst ((zbD ns).map D.int)) else M.bad:M D)=_
 rw [zbf]
 show (if xs.length<64 then (pure (.lst ((zbD xs).map D.int)):M D) else M.bad)=_
 rw [qa4 h]
theorem zdg {xs:List Int} (h:xs.Nodup):(zbD xs).Pairwise (· < ·):=by
 have h1:=zdh xs
 have h2:(zbD xs).Nodup:=(zax xs).nodup_iff.mpr h
 exact (List.pairwise_and_iff.mpr ⟨h1,h2⟩).imp fun z=>by have:=z.1;have:=z.2;omega
theorem zhE {xs ys:List Int} (h:xs.Nodup) (hm: ∀ k,k∈xs↔k∈ys):zbD xs=zei ys:=zob (zdg h) (zd0 ys) fun k=>by rw [(zax xs).mem_iff,zcb,hm]
theorem zb3 {xs:List Int} {m:Int} (m0:0<=m) (h:xs.Nodup) (b: ∀ x∈xs,0<=x/\x<m):(xs.length:Int)<=m:=by
 rw [<- (zax xs).length_eq]
 exact zmL m0 (zdg h) fun x hx=>b x ((zax xs).mem_iff.mp hx)
theorem zco {p:Int->Bool} {k:D->Option D} (e: ∀ i:Int,k (.int i)=if p i=true then some (.int i) else none): ∀ xs:List Int,(xs.map D.int).filterMap k=(xs.filter p).map D.int
 | []=>rfl
 | x::r=>by
  rw [qaM,qat,e,List.filter_cons,zco e r]
  cases p x<;>simp
theorem zsv {i j:Int}:zn7 [.int i,.int j]=pure (.int (if j<i then j else i)):=rfl
theorem zrS {i j:Int}:zos [.int i,.int j]=pure (.int (if j>i then j else i)):=rfl
theorem zmB (xs:List Int):dNe (tI xs) (.tup [])=pure (.bl (!xs.isEmpty)):=by
 show zjt true _ _=_
 unfold zjt
 rw [ziU xs,show pd (.tup [])=some (.tuple []) from rfl]
 have c:zfM (.tuple (xs.map PyData.int)) (.tuple [])=true:=by
  unfold zfM
  simp [PyData.canLay0,PyData.canLayAll0,zaY,PyData.depth,PyData.depthAll,zbc]
 simp only [c,if_true,PyData.eqv]
 cases xs<;>rfl
theorem zdT (n:Nat):((List.range n).map fun (k:Nat)=>(k:Int)).Pairwise (· < ·):=by
 rw [List.pairwise_map]
 exact List.pairwise_lt_range.imp fun z=>by omega
theorem zex {n:Nat}: ∀ x∈(List.range n).map fun (k:Nat)=>(k:Int),0<=x/\x<n:=fun x hx=>by
 obtain ⟨k,hk,rfl⟩:=qaU.mp hx
 have:=List.mem_range.mp hk
 omega
def EvX {α:Type} (m:M α) (c:String):Prop:= ∀ h, ∃ h',m h= .exc c h'/\Gro h h'
section
variable {α β:Type} {m:M α} {a:α} {f:α->M β} {c:String}
theorem EvX.raise:EvX (zgQ c:M α) c:=fun h=>⟨h,rfl,.refl⟩
theorem EvX.of (e:m=zgQ c):EvX m c:=e▸ .raise
theorem EvX.left (x:EvX m c):EvX (m>>=f) c:=fun h=>by
 obtain ⟨h1,e1,g1⟩:=x h
 refine ⟨h1,?_,g1⟩
 show M.bind m f h=_
 unfold M.bind
 rw [e1]
theorem Ev.bindX (x:Ev m a) (y:EvX (f a) c):EvX (m>>=f) c:=fun h=>by
 obtain ⟨h1,e1,g1⟩:=x h
 obtain ⟨h2,e2,g2⟩:=y h1
 refine ⟨h2,?_,g1.trans g2⟩
 show M.bind m f h=_
 unfold M.bind
 rw [e1]
 exact e2
end
theorem zib {names:List String} {gb:FS} {F:List D->M D} {sd:Sd} {c:String} {d:D} (x:EvX (gb sd) c) (hc:names.contains c=true) (ek:F [.exn c]=pure d):Ev (zge names gb F sd) (.rt d):=fun h=>by
 obtain ⟨h1,e1,g1⟩:=x h
 refine ⟨h1,?_,g1⟩
 unfold zge
 rw [e1]
 show (if names.contains c=true then (do let d<-noX (F [.exn c]);pure (.rt d):M Out) h1 else .bad)=_
 rw [qa4 hc,ek]
 rfl
theorem zrf {g:FS} {sd:Sd}:zrW g sd=noX (g sd):=rfl
theorem zpV {g:FE} {sd:Sd}:ztv g sd=noX (g sd):=rfl
theorem zkx {xs:List Int} {m:Int} (m0:0<=m) (h:xs.Pairwise (· < ·)) (b: ∀ x∈xs,0<=x/\x<m):(xs==(List.range m.toNat).map fun (k:Nat)=>(k:Int))=((xs.length:Int)==m):=by
 rw [Bool.eq_iff_iff,beq_iff_eq,beq_iff_eq]
 constructor
 ·intro e
  rw [e]
  simp
  omega
 ·intro e
  refine zob h (zdT _) fun k=>⟨fun hk=> ?_,fun hk=> ?_⟩
  ·obtain ⟨h1,h2⟩:=b k hk
   exact qaU.mpr ⟨k.toNat,List.mem_range.mpr (by omega),by omega⟩
  ·have hb:=zex k hk
   by_cases c:k∈xs
   ·exact c
   ·exfalso
    have:=zb3 (xs:=k::xs) m0 (List.nodup_cons.mpr ⟨c,h.imp fun z=>by omega⟩) fun x hx=>by
     rcases qaP.mp hx with rfl | hx
     ·omega
     ·exact b x hx
    rw [qaE] at this
    omega
end L3
namespace K23
open PySem PySem.Spec PyProof.Rows L2 L3
noncomputable def zcf:List String:=["NoStock","NoOffer","NoThing","NoCover","NoPaper","NoNumber","NotFull","NotInRow","NoText","NoRow","TooMany"]
noncomputable def G_28:FS:=zap (sIf (zde dLt (zag 1) (zaF zgh (zac (zag 0) zav))) (zb8 (cOp dIx (zag 0) (zag 1))) zgq) (zb8 (cOp zdJ (cOp zeq (cK (.int 6151)) (zag 1)) (cK (.int 29))))
noncomputable def F_28:List D->M D:=zcQ 2 G_28
theorem d_28 (x0 x1:D):F_28 [x0,x1]=(do let o<-G_28 [some x0,some x1];zcO o):=rfl
noncomputable def zcS:FS:=zap (zbe 4 (cOp zlV (cOp zdJ (cOp zdJ (cOp zdJ (cOp zeq (zag 4) (cK (.int 48271))) (cOp zeq (cOp zeq (cK (.int 7)) (zag 5)) (zag 5))) (cOp zeq (cK (.int 11)) (zag 1))) (cK (.int 1))) (cK (.int 2147483647)))) (zbe 3 (cOp zdJ (cOp zeq (zag 3) (cK (.int 2147483647))) (zag 4)))
noncomputable def G_29:FS:=zap (zbe 2 (zaF (zau 2 F_28) (zac (zag 0) (zac (zag 1) zav)))) (zap (sIf (zde dEq (cOp zlV (zag 2) (cK (.int 2))) (cK (.int 0))) (zb8 (ze3 (zac (cOp zkC (zag 2) (cK (.int 2))) zav))) zgq) (zap (zbe 3 (cK (.int 0))) (zap (zbe 4 (cOp zlV (zag 2) (cK (.int 2147483647)))) (zap (zgm (zjk (zac (cK (.int 24)) zav)) (zaD 5) zcS) (zb8 (ze3 (zac (zag 3) zav)))))))
noncomputable def F_29:List D->M D:=zcQ 6 G_29
theorem d_29 (x0 x1:D):F_29 [x0,x1]=(do let o<-G_29 [some x0,some x1,none,none,none,none];zcO o):=rfl
noncomputable def G_30:FS:=zap (zbe 2 (cOp zlV (cOp dIx (zag 0) (cK (.int 0))) (zag 1))) (zap (zmd (cOp zkC (cOp dIx (zag 0) (cK (.int 0))) (zag 1)) (zlJ (zag 0) (cK (.int 0)))) (zb8 (zag 2)))
noncomputable def F_30:List D->M D:=zcQ 3 G_30
theorem d_30 (x0 x1:D):F_30 [x0,x1]=(do let o<-G_30 [some x0,some x1,none];zcO o):=rfl
noncomputable def zfN:FE:=zaF zov (zac (zag 0) zav)
noncomputable def G_32:FS:=zap (zbe 1 (zjs (zac (cUn (zjq zcf "NoStock") (zag 0)) (zac (cUn (zjq zcf "NoOffer") (zag 0)) (zac (cUn (zjq zcf "NoThing") (zag 0)) (zac (cUn (zjq zcf "NoCover") (zag 0)) zav)))))) (zap (zbe 1 (cOp zdJ (zag 1) (zjs (zac (cUn (zjq zcf "NoPaper") (zag 0)) (zac (cUn (zjq zcf "NoNumber") (zag 0)) (zac (cUn (zjq zcf "NotFull") (zag 0)) (zac (cUn (zjq zcf "NotInRow") (zag 0)) zav))))))) (zap (zbe 1 (cOp zdJ (zag 1) (zjs (zac (cUn (zjq zcf "NoText") (zag 0)) (zac (cUn (zjq zcf "NoRow") (zag 0)) (zac (cUn (zjq zcf "TooMany") (zag 0)) zav)))))) (zap (sIf (tOr (zi3 (zju (cUn (zpz zcf) (zag 0)))) (zde dNe (zaF zp8 (zac (zaI (iSq (zag 1)) (zaD 0) (fun _=>pure true) zfN [none]) zav)) (cK (.int 1)))) (zb8 (cK (.str "! none of the classes"))) zgq) (zap (zbe 2 (zjs (zac (cK (.str "stock")) (zac (cK (.str "offer")) (zac (cK (.str "thing")) (zac (cK (.str "cover")) (zac (cK (.str "paper")) (zac (cK (.str "number")) (zac (cK (.str "full")) (zac (cK (.str "in row")) (zac (cK (.str "text")) (zac (cK (.str "row")) (zac (cK (.str "many")) zav))))))))))))) (zb8 (cOp zdJ (cK (.str "! ")) (cOp dIx (zag 2) (cUn zqU (zag 1)))))))))
noncomputable def F_32:List D->M D:=zcQ 3 G_32
theorem d_32 (x0:D):F_32 [x0]=(do let o<-G_32 [some x0,none,none];zcO o):=rfl
noncomputable def G_0:FS:=zb8 (zpf (cUn (zhO "int") (zag 0)) (zrG (cUn (zhO "bool") (zag 0))))
noncomputable def F_0:List D->M D:=zcQ 1 G_0
theorem d_0 (x0:D):F_0 [x0]=(do let o<-G_0 [some x0];zcO o):=rfl
noncomputable def zal:FT:=zde dGt (zag 3) (cK (.int 0))
noncomputable def zao:FS:=zap (zbe 4 (cOp zlV (zag 2) (zag 3))) (zap (zbe 2 (zag 3)) (zbe 3 (zag 4)))
noncomputable def G_2:FS:=zap (zbe 2 (zag 0)) (zap (zbe 3 (zag 1)) (zap (zez 3000 zal zao) (zb8 (zag 2))))
noncomputable def F_2:List D->M D:=zcQ 5 G_2
theorem d_2 (x0 x1:D):F_2 [x0,x1]=(do let o<-G_2 [some x0,some x1,none,none,none];zcO o):=rfl
noncomputable def G_1:FS:=zap (zbe 2 (zaF (zau 2 F_2) (zac (zag 0) (zac (zag 1) zav)))) (zb8 (zfc (zac (cOp zeI (zag 0) (zag 2)) (zac (cOp zeI (zag 1) (zag 2)) zav))))
noncomputable def F_1:List D->M D:=zcQ 3 G_1
theorem d_1 (x0 x1:D):F_1 [x0,x1]=(do let o<-G_1 [some x0,some x1,none];zcO o):=rfl
noncomputable def zb9:FS:=zap (zbe 1 (cOp zdJ (cOp zeq (zag 1) (cOp dIx (zag 3) (cK (.int 1)))) (cOp zeq (cOp dIx (zag 3) (cK (.int 0))) (zag 2)))) (zbe 2 (cOp zeq (zag 2) (cOp dIx (zag 3) (cK (.int 1)))))
noncomputable def G_4:FS:=zap (zbe 1 (cK (.int 0))) (zap (zbe 2 (cK (.int 1))) (zap (zgm (iSq (zag 0)) (zaD 3) zb9) (zb8 (zaF (zau 2 F_1) (zac (zag 1) (zac (zag 2) zav))))))
noncomputable def F_4:List D->M D:=zcQ 4 G_4
theorem d_4 (x0:D):F_4 [x0]=(do let o<-G_4 [some x0,none,none,none];zcO o):=rfl
noncomputable def zbq:FE:=zfc (zac (cK (.int 1)) (zac (zag 0) zav))
noncomputable def G_25:FS:=zap (sIf (tOr (zi3 (zju (zaF (zau 1 fun ds=>noX (F_0 ds)) (zac (zag 0) zav)))) (tOr (zde dLt (zag 0) (cK (.int 0))) (zde dGt (zag 0) (cK (.int 100))))) (zgY "NoNumber") zgq) (zb8 (zaF (zau 1 fun ds=>noX (F_4 ds)) (zac (zaI (zeT (zac (cK (.int 1)) (zac (cOp zdJ (zag 0) (cK (.int 1))) zav))) (zaD 0) (fun _=>pure true) zbq [none]) zav)))
noncomputable def F_25:List D->M D:=zcQ 1 G_25
theorem d_25 (x0:D):F_25 [x0]=(do let o<-G_25 [some x0];zcO o):=rfl
noncomputable def za4:FS:=zgS (zfE (zag 1) (cOp dIx (zag 2) (cK (.int 0))))
noncomputable def G_19:FS:=zap (zbe 1 (ze3 zav)) (zap (zgm (iSq (zag 0)) (zaD 2) za4) (zb8 (zaF zb2 (zac (cUn zbP (zag 1)) zav))))
noncomputable def F_19:List D->M D:=zcQ 3 G_19
theorem d_19 (x0:D):F_19 [x0]=(do let o<-G_19 [some x0,none,none];zcO o):=rfl
noncomputable def G_20:FS:=zb8 (cOp dEq (zaF zgh (zac (zaF (zau 1 F_19) (zac (zag 1) zav)) zav)) (cOp dIx (zag 0) (cK (.int 0))))
noncomputable def F_20:List D->M D:=zcQ 2 G_20
theorem d_20 (x0 x1:D):F_20 [x0,x1]=(do let o<-G_20 [some x0,some x1];zcO o):=rfl
noncomputable def G_17:FS:=zb8 (zaF (zau 2 F_20) (zac (zag 0) (zac (cOp dIx (zag 0) (cK (.int 1))) zav)))
noncomputable def F_17:List D->M D:=zcQ 1 G_17
theorem d_17 (x0:D):F_17 [x0]=(do let o<-G_17 [some x0];zcO o):=rfl
noncomputable def G_18:FS:=sIf (zi3 (zju (zaF (zau 1 fun ds=>noX (F_17 ds)) (zac (zag 0) zav)))) (zgY "NotFull") zgq
noncomputable def F_18:List D->M D:=zcQ 1 G_18
theorem d_18 (x0:D):F_18 [x0]=(do let o<-G_18 [some x0];zcO o):=rfl
noncomputable def zdu:FE:=zag 0
noncomputable def zdq:FT:=zde zeD (zag 0) (zag 1)
noncomputable def G_24:FS:=zb8 (zaF zb2 (zac (zaI (iSq (cOp dIx (zag 0) (cK (.int 0)))) (zaD 0) zdq zdu [none,some 1]) zav))
noncomputable def F_24:List D->M D:=zcQ 2 G_24
theorem d_24 (x0 x1:D):F_24 [x0,x1]=(do let o<-G_24 [some x0,some x1];zcO o):=rfl
noncomputable def G_23:FS:=zap (zbe 2 (zaF zgh (zac (zaF (zau 2 F_24) (zac (zag 0) (zac (zag 1) zav))) zav))) (zb8 (cIf (zde dGt (zag 2) (cK (.int 0))) (zaF (zau 2 F_1) (zac (cOp dIx (zag 0) (cK (.int 1))) (zac (zag 2) zav))) (cK .non)))
noncomputable def F_23:List D->M D:=zcQ 3 G_23
theorem d_23 (x0 x1:D):F_23 [x0,x1]=(do let o<-G_23 [some x0,some x1,none];zcO o):=rfl
noncomputable def G_3:FS:=zb8 (cOp dLt (cOp zeq (cOp dIx (zag 0) (cK (.int 0))) (cOp dIx (zag 1) (cK (.int 1)))) (cOp zeq (cOp dIx (zag 1) (cK (.int 0))) (cOp dIx (zag 0) (cK (.int 1)))))
noncomputable def F_3:List D->M D:=zcQ 2 G_3
theorem d_3 (x0 x1:D):F_3 [x0,x1]=(do let o<-G_3 [some x0,some x1];zcO o):=rfl
noncomputable def za0:FS:=zap (zbe 6 (zaF (zau 2 F_23) (zac (zag 5) (zac (zag 1) zav)))) (sIf (zqr (zde zhR (zag 6) (cK .non)) (tOr (zde zkY (zag 3) (cK .non)) (zju (zaF (zau 2 F_3) (zac (zag 6) (zac (zag 3) zav)))))) (zap (zbe 2 (zag 4)) (zbe 3 (zag 6))) zgq)
noncomputable def G_22:FS:=zap (zbe 2 (cK .non)) (zap (zbe 3 (cK .non)) (zap (zgm (zs7 (cOp dIx (zag 0) (cK (.int 1)))) (zbO 2 (zaw (zaD 4) (zaw (zaD 5) zbR))) za0) (zb8 (zag 2))))
noncomputable def F_22:List D->M D:=zcQ 7 G_22
theorem d_22 (x0 x1:D):F_22 [x0,x1]=(do let o<-G_22 [some x0,some x1,none,none,none,none,none];zcO o):=rfl
noncomputable def zba:FT:=zde dLt (zaF zgh (zac (zag 2) zav)) (cOp dIx (zag 0) (cK (.int 0)))
noncomputable def zbo:FS:=zap (zbe 3 (zaF (zau 2 F_22) (zac (zag 0) (zac (zag 2) zav)))) (zap (zbe 4 (cOp dIx (cOp dIx (zag 0) (cK (.int 1))) (zag 3))) (zap (zbe 5 (zaF (zau 2 F_24) (zac (zag 4) (zac (zag 2) zav)))) (zap (zgS (zdx (zag 1) (zfc (zac (zag 3) (zac (zag 5) (zac (zaF (zau 2 F_23) (zac (zag 4) (zac (zag 2) zav))) zav)))))) (zgS (zfE (zag 2) (zag 5))))))
noncomputable def G_21:FS:=zap (zgS (zaF (zau 1 F_18) (zac (zag 0) zav))) (zap (zbe 1 (ze3 zav)) (zap (zbe 2 (ze3 zav)) (zap (zrW (zez 1000 zba zbo)) (zb8 (cUn zpd (zag 1))))))
noncomputable def F_21:List D->M D:=zcQ 6 G_21
theorem d_21 (x0:D):F_21 [x0]=(do let o<-G_21 [some x0,none,none,none,none,none];zcO o):=rfl
noncomputable def zaW:FS:=zmd (cOp dIx (zag 2) (cK (.int 2))) (zrE (zag 1) (zag 3))
noncomputable def zaX:FS:=zgm (iSq (cOp dIx (zag 2) (cK (.int 1)))) (zaD 3) zaW
noncomputable def zbH:FE:=cOp zqJ (zag 1) (zag 0)
noncomputable def G_27:FS:=zap (zbe 1 zqw) (zap (zhH (iSq (zaF (zau 1 F_21) (zac (zag 0) zav))) (zaD 2) zaX) (zb8 (zaI (zjk (zac (cOp dIx (zag 0) (cK (.int 0))) zav)) (zaD 0) (fun _=>pure true) zbH [none,some 1])))
noncomputable def F_27:List D->M D:=zcQ 4 G_27
theorem d_27 (x0:D):F_27 [x0]=(do let o<-G_27 [some x0,none,none,none];zcO o):=rfl
noncomputable def zc7:FE:=zaF zgh (zac (cOp dIx (zag 0) (cK (.int 0))) zav)
noncomputable def zc2:FE:=zaF (zau 2 fun ds=>noX (F_1 ds)) (zac (cOp zeq (cOp dIx (zag 0) (cK (.int 0))) (cOp dIx (zag 1) (cK (.int 1)))) (zac (cOp zeq (cOp dIx (zag 0) (cK (.int 1))) (cOp dIx (zag 1) (cK (.int 0)))) zav))
noncomputable def G_26:FS:=zap (zbe 1 (zaF (zau 1 F_27) (zac (zag 0) zav))) (zap (zbe 2 (zaF (zau 1 F_25) (zac (zaF zlD (zac (zaI (iSq (cOp dIx (zag 0) (cK (.int 1)))) (zaD 0) (fun _=>pure true) zc7 [none]) zav)) zav))) (zb8 (zaF zb2 (zac (zaI (iSq (zag 1)) (zaD 0) (fun _=>pure true) zc2 [none,some 2]) zav))))
noncomputable def F_26:List D->M D:=zcQ 3 G_26
theorem d_26 (x0:D):F_26 [x0]=(do let o<-G_26 [some x0,none,none];zcO o):=rfl
noncomputable def G_42:FS:=zge zcf (zb8 (znJ 1 [F_25,F_26] (zag 0) (zac (zag 1) zav))) F_32
noncomputable def F_42:List D->M D:=zcQ 3 G_42
theorem d_42 (x0 x1:D):F_42 [x0,x1]=(do let o<-G_42 [some x0,some x1,none];zcO o):=rfl
noncomputable def zaB:FT:=zde dGt (zag 3) (cK (.int 0))
noncomputable def zaE:FS:=zpl 2 3 (zac (zag 3) (zac (cOp zlV (zag 2) (zag 3)) zav))
noncomputable def G_37:FS:=zap (zpl 2 3 (zac (zaF zqS (zac (zag 0) zav)) (zac (zaF zqS (zac (zag 1) zav)) zav))) (zap (zez 3000 zaB zaE) (zb8 (zfc (zac (cOp zeI (zag 0) (zag 2)) (zac (cOp zeI (zag 1) (zag 2)) zav)))))
noncomputable def F_37:List D->M D:=zcQ 4 G_37
theorem d_37 (x0 x1:D):F_37 [x0,x1]=(do let o<-G_37 [some x0,some x1,none,none];zcO o):=rfl
noncomputable def zbC:FS:=zbe 1 (cOp zeq (zag 1) (zag 2))
noncomputable def zcp:FE:=cOp zkC (zag 1) (zag 0)
noncomputable def G_43:FS:=zap (zbe 1 (cK (.int 1))) (zap (zgm (zeT (zac (cK (.int 1)) (zac (cOp zdJ (zag 0) (cK (.int 1))) zav))) (zaD 2) zbC) (zb8 (zaF (zau 2 F_37) (zac (zaF zp8 (zac (zaI (zeT (zac (cK (.int 1)) (zac (cOp zdJ (zag 0) (cK (.int 1))) zav))) (zaD 0) (fun _=>pure true) zcp [none,some 1]) zav)) (zac (zag 1) zav)))))
noncomputable def F_43:List D->M D:=zcQ 3 G_43
theorem d_43 (x0:D):F_43 [x0]=(do let o<-G_43 [some x0,none,none];zcO o):=rfl
noncomputable def G_31:FS:=zb8 (zpf (cUn (zhO "int") (zag 0)) (zrG (cUn (zhO "bool") (zag 0))))
noncomputable def F_31:List D->M D:=zcQ 1 G_31
theorem d_31 (x0:D):F_31 [x0]=(do let o<-G_31 [some x0];zcO o):=rfl
noncomputable def G_38:FS:=zap (sIf (tOr (zi3 (zju (cUn (zhO "tuple") (zag 0)))) (tOr (zde dNe (zaF zgh (zac (zag 0) zav)) (cK (.int 2))) (tOr (zi3 (zju (zaF (zau 1 F_31) (zac (cOp dIx (zag 0) (cK (.int 0))) zav)))) (zi3 (zju (zaF (zau 1 F_31) (zac (cOp dIx (zag 0) (cK (.int 1))) zav))))))) (zb8 (cK (.bl false))) zgq) (zb8 (zpf (cOp dGt (cOp dIx (zag 0) (cK (.int 1))) (cK (.int 0))) (cOp dEq (zaF (zau 2 F_37) (zac (cOp dIx (zag 0) (cK (.int 0))) (zac (cOp dIx (zag 0) (cK (.int 1))) zav))) (zag 0))))
noncomputable def F_38:List D->M D:=zcQ 1 G_38
theorem d_38 (x0:D):F_38 [x0]=(do let o<-G_38 [some x0];zcO o):=rfl
noncomputable def zb1:FE:=zag 0
noncomputable def zb5:FT:=zde dEq (cOp zsS (cOp zsH (zag 1) (zag 0)) (cK (.int 1))) (cK (.int 1))
noncomputable def zbV:FE:=cOp zlV (cOp zdJ (zag 1) (cOp zeq (zag 2) (zag 0))) (zag 3)
noncomputable def G_33:FS:=zap (zbe 2 (zaF (zau 2 F_30) (zac (zag 0) (zac (cK (.int 3)) zav)))) (zap (sIf (zde dEq (zag 2) (cK (.int 0))) (zap (zbe 3 (cOp zdJ (cK (.int 1)) (zaF (zau 2 F_30) (zac (zag 0) (zac (cOp zrL (cOp zsT (cK (.int 1)) (zag 1)) (cK (.int 1))) zav))))) (zb8 (zaF zb2 (zac (zaI (zjk (zac (zag 1) zav)) (zaD 0) zb5 zb1 [none,some 3]) zav)))) zgq) (zap (zmd (zfc (zac (zaF (zau 2 F_30) (zac (zag 0) (zac (zag 1) zav))) (zac (cOp dIx (zjs (zac (cK (.int 1)) (zac (cOp zdJ (cK (.int 1)) (zaF (zau 2 F_30) (zac (zag 0) (zac (cK (.int 3)) zav)))) zav))) (cOp zrL (zag 2) (cK (.int 1)))) zav))) (zbO 2 (zaw (zaD 4) (zaw (zaD 5) zbR)))) (zb8 (zaF zb2 (zac (cUn zbP (zaI (zjk (zac (cOp zdJ (cK (.int 1)) (zaF (zau 2 F_30) (zac (zag 0) (zac (cK (.int 4)) zav)))) zav)) (zaD 0) (fun _=>pure true) zbV [none,some 4,some 5,some 1])) zav)))))
noncomputable def F_33:List D->M D:=zcQ 6 G_33
theorem d_33 (x0 x1:D):F_33 [x0,x1]=(do let o<-G_33 [some x0,some x1,none,none,none,none];zcO o):=rfl
noncomputable def zcH:FE:=ze3 (zac (zaF (zau 2 F_33) (zac (zag 1) (zac (zag 2) zav))) (zac (cOp zdJ (cK (.int 1)) (zaF (zau 2 F_30) (zac (zag 1) (zac (zag 3) zav)))) zav))
noncomputable def zdN:FE:=zag 0
noncomputable def zdR:FT:=zde dIn (zag 1) (cOp dIx (zag 0) (cK (.int 0)))
noncomputable def zbp:FS:=sIf (zde zqh (zaI (iSq (zag 5)) (zaD 0) zdR zdN [none,some 6]) (zjs zav)) (zap (zbe 7 (cOp dIx (zag 5) (zaF (zau 2 F_30) (zac (zag 0) (zac (zaF zgh (zac (zag 5) zav)) zav))))) (zmd (zaF zb2 (zac (zaF ze0 (zac (cOp zdJ (cOp dIx (zag 7) (cK (.int 0))) (zfc (zac (zag 6) zav))) zav)) zav)) (zlJ (zag 7) (cK (.int 0))))) zgq
noncomputable def zdK:FE:=zfc (zac (cOp dIx (zag 0) (cK (.int 0))) (zac (cOp dIx (zag 0) (cK (.int 1))) zav))
noncomputable def G_34:FS:=zap (zbe 3 (cOp zdJ (cK (.int 1)) (zaF (zau 2 F_30) (zac (zag 0) (zac (zag 1) zav))))) (zap (zbe 4 (cOp dIx (zjs (zac (cK (.int 3)) (zac (cK (.int 9)) (zac (cK (.int 50)) (zac (cOp zo6 (cK (.int 10)) (cK (.int 12))) zav))))) (zaF (zau 2 F_30) (zac (zag 0) (zac (cK (.int 4)) zav))))) (zap (zbe 5 (zaI (zjk (zac (cOp zdJ (cK (.int 1)) (zaF (zau 2 F_30) (zac (zag 0) (zac (zag 2) zav)))) zav)) (zaD 0) (fun _=>pure true) zcH [none,some 0,some 3,some 4])) (zap (zgm (zjk (zac (zag 3) zav)) (zaD 6) zbp) (zb8 (zfc (zac (zag 3) (zac (zaF zb2 (zac (zaI (iSq (zag 5)) (zaD 0) (fun _=>pure true) zdK [none]) zav)) zav)))))))
noncomputable def F_34:List D->M D:=zcQ 8 G_34
theorem d_34 (x0 x1 x2:D):F_34 [x0,x1,x2]=(do let o<-G_34 [some x0,some x1,some x2,none,none,none,none,none];zcO o):=rfl
noncomputable def zcW:FE:=zag 0
noncomputable def zcY:FT:=zde zhb (zag 0) (zag 1)
noncomputable def zcX:FS:=zbe 2 (cOp zdJ (zag 2) (zaI (iSq (cOp dIx (cOp dIx (cOp dIx (zag 0) (cK (.int 1))) (zag 3)) (cK (.int 0)))) (zaD 0) zcY zcW [none,some 2]))
noncomputable def G_36:FS:=zap (zbe 2 (zjs zav)) (zap (zgm (iSq (zag 1)) (zaD 3) zcX) (zb8 (zaF zb2 (zac (zaF ze0 (zac (zag 2) zav)) zav))))
noncomputable def F_36:List D->M D:=zcQ 4 G_36
theorem d_36 (x0 x1:D):F_36 [x0,x1]=(do let o<-G_36 [some x0,some x1,none,none];zcO o):=rfl
noncomputable def zc5:FE:=zag 0
noncomputable def zcZ:FT:=zde zhb (zag 0) (zag 1)
noncomputable def G_39:FS:=zap (zbe 3 (zaF (zau 2 F_36) (zac (zag 0) (zac (zag 2) zav)))) (zb8 (zaF zb2 (zac (zaI (iSq (cOp dIx (cOp dIx (cOp dIx (zag 0) (cK (.int 1))) (zag 1)) (cK (.int 0)))) (zaD 0) zcZ zc5 [none,some 3]) zav)))
noncomputable def F_39:List D->M D:=zcQ 4 G_39
theorem d_39 (x0 x1 x2:D):F_39 [x0,x1,x2]=(do let o<-G_39 [some x0,some x1,some x2,none];zcO o):=rfl
noncomputable def zbb:FS:=zap (zbe 4 (zaF (zau 3 F_39) (zac (zag 0) (zac (zag 3) (zac (zag 1) zav))))) (sIf (zde dNe (zag 4) (zfc zav)) (zgS (zdx (zag 2) (zfc (zac (cOp dIx (cOp dIx (cOp dIx (zag 0) (cK (.int 1))) (zag 3)) (cK (.int 1))) (zac (zaF zgh (zac (zag 4) zav)) (zac (zag 3) zav)))))) zgq)
noncomputable def zbQ:FS:=sIf (tOr (zde zkY (zag 5) (cK .non)) (zde dLt (cOp zeq (zag 6) (cOp dIx (zag 5) (cK (.int 1)))) (cOp zeq (cOp dIx (zag 5) (cK (.int 0))) (zag 7)))) (zbe 5 (zfc (zac (zag 6) (zac (zag 7) (zac (zag 3) zav))))) zgq
noncomputable def G_40:FS:=zap (zbe 2 (ze3 zav)) (zap (zgm (zjk (zac (zaF zgh (zac (cOp dIx (zag 0) (cK (.int 1))) zav)) zav)) (zaD 3) zbb) (zap (zbe 5 (cK .non)) (zap (zgm (iSq (cUn zpd (zag 2))) (zbO 3 (zaw (zaD 6) (zaw (zaD 7) (zaw (zaD 3) zbR)))) zbQ) (zb8 (cIf (zde zkY (zag 5) (cK .non)) (cK .non) (cOp dIx (zag 5) (cK (.int 2))))))))
noncomputable def F_40:List D->M D:=zcQ 8 G_40
theorem d_40 (x0 x1:D):F_40 [x0,x1]=(do let o<-G_40 [some x0,some x1,none,none,none,none,none,none];zcO o):=rfl
noncomputable def zbG:FT:=zde zhR (zaF (zau 2 F_40) (zac (zag 0) (zac (zag 2) zav))) (cK .non)
noncomputable def zca:FS:=zap (zbe 3 (zaF (zau 2 F_40) (zac (zag 0) (zac (zag 2) zav)))) (zap (zbe 4 (zaF (zau 3 F_39) (zac (zag 0) (zac (zag 3) (zac (zag 2) zav))))) (zap (zgS (zdx (zag 1) (zfc (zac (zag 3) (zac (zag 4) (zac (zaF (zau 2 F_37) (zac (cOp dIx (cOp dIx (cOp dIx (zag 0) (cK (.int 1))) (zag 3)) (cK (.int 1))) (zac (zaF zgh (zac (zag 4) zav)) zav))) zav)))))) (zbe 2 (cOp zdJ (zag 2) (zfc (zac (zag 3) zav))))))
noncomputable def G_41:FS:=zap (zbe 1 (ze3 zav)) (zap (zbe 2 (zfc zav)) (zap (zez 1000 zbG zca) (zb8 (cUn zpd (zag 1)))))
noncomputable def F_41:List D->M D:=zcQ 5 G_41
theorem d_41 (x0:D):F_41 [x0]=(do let o<-G_41 [some x0,none,none,none,none];zcO o):=rfl
noncomputable def zc9:FE:=zaF zgh (zac (zag 0) zav)
noncomputable def zcc:FS:=zmd (zaF (zau 2 F_37) (zac (cOp zeq (cOp dIx (zag 6) (cK (.int 0))) (zag 2)) (zac (cOp zeq (cOp dIx (zag 6) (cK (.int 1))) (zag 1)) zav))) (zrE (zag 3) (zag 7))
noncomputable def zce:FS:=zgm (iSq (zag 5)) (zaD 7) zcc
noncomputable def zeg:FE:=cOp zqJ (zag 1) (zag 0)
noncomputable def G_44:FS:=zap (zmd (zaF (zau 1 F_43) (zac (zaF zlD (zac (zaI (iSq (cOp dIx (zag 0) (cK (.int 1)))) (zbO 2 (zaw (zaD 0) (zaw (zaD 1) zbR))) (fun _=>pure true) zc9 [none,none]) zav)) zav)) (zbO 2 (zaw (zaD 1) (zaw (zaD 2) zbR)))) (zap (zbe 3 zqw) (zap (zgm (iSq (zaF (zau 1 F_41) (zac (zag 0) zav))) (zbO 3 (zaw (zaD 4) (zaw (zaD 5) (zaw (zaD 6) zbR)))) zce) (zb8 (zaF zb2 (zac (zaI (zjk (zac (cOp dIx (zag 0) (cK (.int 0))) zav)) (zaD 0) (fun _=>pure true) zeg [none,some 3]) zav)))))
noncomputable def F_44:List D->M D:=zcQ 8 G_44
theorem d_44 (x0:D):F_44 [x0]=(do let o<-G_44 [some x0,none,none,none,none,none,none,none];zcO o):=rfl
noncomputable def zcr:FE:=zag 0
noncomputable def zcm:FT:=zde dNe (zag 0) (zag 1)
noncomputable def zck:FE:=zfc (zac (zaF zb2 (zac (zaI (iSq (zag 0)) (zaD 0) zcm zcr [none,some 2]) zav)) (zac (zag 1) zav))
noncomputable def zcn:FE:=zag 0
noncomputable def zcj:FT:=zde dNe (cOp dIx (zag 0) (cK (.int 0))) (zfc zav)
noncomputable def G_35:FS:=zap (zmd (zag 1) (zbO 2 (zaw (zaD 2) (zaw (zaD 3) zbR)))) (zap (zbe 4 (zaF (zau 2 F_30) (zac (zag 0) (zac (zag 2) zav)))) (zap (zbe 5 (zaI (iSq (zag 3)) (zbO 2 (zaw (zaD 0) (zaw (zaD 1) zbR))) (fun _=>pure true) zck [none,none,some 4])) (zb8 (zfc (zac (zag 2) (zac (zaF zb2 (zac (zaI (iSq (zag 5)) (zaD 0) zcj zcn [none]) zav)) zav))))))
noncomputable def F_35:List D->M D:=zcQ 6 G_35
theorem d_35 (x0 x1:D):F_35 [x0,x1]=(do let o<-G_35 [some x0,some x1,none,none,none,none];zcO o):=rfl
noncomputable def zf7:FE:=zaF (zau 1 F_38) (zac (zag 0) zav)
noncomputable def zeR:FS:=zap (zbe 2 (zaF (zau 2 F_29) (zac (zag 0) (zac (zag 1) zav)))) (zap (zbe 3 (cOp dIx (zjs (zac (zaF (zau 2 F_30) (zac (zag 2) (zac (cK (.int 11)) zav))) (zac (zaF (zau 2 F_30) (zac (zag 2) (zac (cK (.int 101)) zav))) (zac (cK (.int 100)) zav)))) (zaF (zau 2 F_30) (zac (zag 2) (zac (cK (.int 3)) zav))))) (zap (zbe 4 (zaF (zau 2 F_42) (zac (cK (.int 0)) (zac (zag 3) zav)))) (zap (sIf (tOr (zi3 (zju (zaF (zau 1 F_38) (zac (zag 4) zav)))) (zde dNe (zag 4) (zaF (zau 1 F_43) (zac (zag 3) zav)))) (zb8 (cK (.bl false))) zgq) (zap (sIf (zde dNe (zaF (zau 2 F_42) (zac (cK (.int 0)) (zac (cOp dIx (zjs (zac (cUn zrH (cK (.int 1))) (zac (cK (.int 101)) (zac (cK (.bl true)) (zac (cK .non) (zac (cK (.str "3")) (zac (zfc (zac (cK (.int 1)) zav)) (zac (cOp zo6 (cK (.int 10)) (cK (.int 30))) zav)))))))) (zaF (zau 2 F_30) (zac (zag 2) (zac (cK (.int 7)) zav)))) zav))) (cK (.str "! number"))) (zb8 (cK (.bl false))) zgq) (zap (zbe 5 (zaF (zau 3 F_34) (zac (zag 2) (zac (cK (.int 10)) (zac (cK (.int 12)) zav))))) (zap (zbe 4 (zaF (zau 2 F_42) (zac (cK (.int 1)) (zac (zag 5) zav)))) (zap (sIf (tOr (zi3 (zju (cUn (zhO "tuple") (zag 4)))) (tOr (zi3 (zju (zaF zsR (zac (zaI (iSq (zag 4)) (zaD 0) (fun _=>pure true) zf7 [none]) zav)))) (zde dNe (zag 4) (zaF (zau 1 F_44) (zac (zag 5) zav))))) (zb8 (cK (.bl false))) zgq) (sIf (zde dNe (zaF (zau 2 F_42) (zac (cK (.int 1)) (zac (zaF (zau 2 F_35) (zac (zag 2) (zac (zag 5) zav))) zav))) (cK (.str "! full"))) (zb8 (cK (.bl false))) zgq))))))))
noncomputable def G_45:FS:=zap (zgm (zjk (zac (zaF zos (zac (cK (.int 1)) (zac (zaF zn7 (zac (zaF zgh (zac (zag 0) zav)) (zac (cK (.int 4)) zav))) zav))) zav)) (zaD 1) zeR) (zb8 (zpf (cOp dEq (zaF (zau 2 F_42) (zac (cK (.int 0)) (zac (cK (.int 0)) zav))) (zfc (zac (cK (.int 0)) (zac (cK (.int 1)) zav)))) (cOp dEq (zaF (zau 2 F_42) (zac (cK (.int 0)) (zac (cK (.int 1)) zav))) (zfc (zac (cK (.int 1)) (zac (cK (.int 1)) zav))))))
noncomputable def F_45:List D->M D:=zcQ 6 G_45
theorem d_45 (x0:D):F_45 [x0]=(do let o<-G_45 [some x0,none,none,none,none,none];zcO o):=rfl
end K23
set_option genInjectivity false
set_option genSizeOf false
set_option genSizeOfSpec false
namespace K23
open PySem PySem.Spec PyProof.Rows L2 L3
noncomputable def top (i:Nat):Stmt:=PySem.Challenge.pw_cheapcovers_k23_steps_together_and_what.main.body.getD i (.Pass ⟨0,0,0,0⟩)
theorem zfw {A:Around} {k:Nat} (hr:zds k A):A.units+60<cLine:=by have:=hr.units;omega
theorem zrT {A:Around} {k:Nat} (hr:zc1 k A):A.units+60<cLine:=by have:=hr.un;omega
theorem zqH {P:Program} {w:World} {K:W.Frag} {mg:Str->Option Value} {base:Heap} {N:List Str} {qual:Str} {scope:Scope} {f:Addr} {cd:Value} {A:Around} {outer:List Env} {s:Shared} {H:Hp} {E:XK}:ze7 (zhp CX0 P w K mg base N qual scope f cd A outer s H E).nox:=⟨rfl,rfl,rfl⟩
theorem zm1:bootBuiltins "abs"=some (.builtin "abs"):=by decide +kernel
theorem zpu:bootBuiltins "all"=some (.builtin "all"):=by decide +kernel
theorem zls:bootBuiltins "bool"=some (.type "bool"):=by decide +kernel
theorem zlx:bootBuiltins "int"=some (.type "int"):=by decide +kernel
theorem zcM:bootBuiltins "len"=some (.builtin "len"):=by decide +kernel
theorem zkm:bootBuiltins "max"=some (.builtin "max"):=by decide +kernel
theorem zp2:bootBuiltins "min"=some (.builtin "min"):=by decide +kernel
theorem zgU:bootBuiltins "sorted"=some (.builtin "sorted"):=by decide +kernel
theorem zm9:bootBuiltins "sum"=some (.builtin "sum"):=by decide +kernel
theorem za8:bootBuiltins "tuple"=some (.type "tuple"):=by decide +kernel
noncomputable abbrev s_28:Stmt:=top 35
noncomputable abbrev s_29:Stmt:=top 36
noncomputable abbrev s_30:Stmt:=top 37
noncomputable abbrev s_32:Stmt:=top 39
noncomputable abbrev s_0:Stmt:=top 1
noncomputable abbrev s_2:Stmt:=top 3
noncomputable abbrev s_1:Stmt:=top 2
noncomputable abbrev s_4:Stmt:=top 5
noncomputable abbrev s_25:Stmt:=top 31
noncomputable abbrev s_19:Stmt:=top 22
noncomputable abbrev s_20:Stmt:=top 23
noncomputable abbrev s_17:Stmt:=top 20
noncomputable abbrev s_18:Stmt:=top 21
noncomputable abbrev s_24:Stmt:=top 28
noncomputable abbrev s_23:Stmt:=top 27
noncomputable abbrev s_3:Stmt:=top 4
noncomputable abbrev s_22:Stmt:=top 26
noncomputable abbrev s_21:Stmt:=top 25
noncomputable abbrev s_27:Stmt:=top 33
noncomputable abbrev s_26:Stmt:=top 32
noncomputable abbrev s_42:Stmt:=top 49
noncomputable abbrev s_37:Stmt:=top 44
noncomputable abbrev s_43:Stmt:=top 50
noncomputable abbrev s_31:Stmt:=top 38
noncomputable abbrev s_38:Stmt:=top 45
noncomputable abbrev s_33:Stmt:=top 40
noncomputable abbrev s_34:Stmt:=top 41
noncomputable abbrev s_36:Stmt:=top 43
noncomputable abbrev s_39:Stmt:=top 46
noncomputable abbrev s_40:Stmt:=top 47
noncomputable abbrev s_41:Stmt:=top 48
noncomputable abbrev s_44:Stmt:=top 51
noncomputable abbrev s_35:Stmt:=top 42
noncomputable abbrev s_45:Stmt:=top 52
structure Ad where
 a_5:Addr
 a_6:Addr
 a_7:Addr
 a_8:Addr
 a_9:Addr
 a_10:Addr
 a_11:Addr
 a_12:Addr
 a_13:Addr
 a_14:Addr
 a_15:Addr
 a_16:Addr
 a_28:Addr
 d_28:FuncData
 a_29:Addr
 d_29:FuncData
 a_30:Addr
 d_30:FuncData
 a_32:Addr
 d_32:FuncData
 a_0:Addr
 d_0:FuncData
 a_2:Addr
 d_2:FuncData
 a_1:Addr
 d_1:FuncData
 a_4:Addr
 d_4:FuncData
 a_25:Addr
 d_25:FuncData
 a_19:Addr
 d_19:FuncData
 a_20:Addr
 d_20:FuncData
 a_17:Addr
 d_17:FuncData
 a_18:Addr
 d_18:FuncData
 a_24:Addr
 d_24:FuncData
 a_23:Addr
 d_23:FuncData
 a_3:Addr
 d_3:FuncData
 a_22:Addr
 d_22:FuncData
 a_21:Addr
 d_21:FuncData
 a_27:Addr
 d_27:FuncData
 a_26:Addr
 d_26:FuncData
 a_42:Addr
 d_42:FuncData
 a_37:Addr
 d_37:FuncData
 a_43:Addr
 d_43:FuncData
 a_31:Addr
 d_31:FuncData
 a_38:Addr
 d_38:FuncData
 a_33:Addr
 d_33:FuncData
 a_34:Addr
 d_34:FuncData
 a_36:Addr
 d_36:FuncData
 a_39:Addr
 d_39:FuncData
 a_40:Addr
 d_40:FuncData
 a_41:Addr
 d_41:FuncData
 a_44:Addr
 d_44:FuncData
 a_35:Addr
 d_35:FuncData
 a_45:Addr
 d_45:FuncData
structure Tx (K:W.Frag) (mg:Str->Option Value) (t:Ad):Prop where
 n_ValueError:mg "ValueError"=none
 n_abs:mg "abs"=none
 n_all:mg "all"=none
 n_bool:mg "bool"=none
 n_enumerate:mg "enumerate"=none
 n_int:mg "int"=none
 n_isinstance:mg "isinstance"=none
 n_len:mg "len"=none
 n_max:mg "max"=none
 n_min:mg "min"=none
 n_range:mg "range"=none
 n_set:mg "set"=none
 n_sorted:mg "sorted"=none
 n_sum:mg "sum"=none
 n_tuple:mg "tuple"=none
 g_5:mg "CoverError"=some (.ref t.a_5)
 g_6:mg "NoStock"=some (.ref t.a_6)
 g_7:mg "NoOffer"=some (.ref t.a_7)
 g_8:mg "NoThing"=some (.ref t.a_8)
 g_9:mg "NoCover"=some (.ref t.a_9)
 g_10:mg "NoPaper"=some (.ref t.a_10)
 g_11:mg "NoNumber"=some (.ref t.a_11)
 g_12:mg "NotFull"=some (.ref t.a_12)
 g_13:mg "NotInRow"=some (.ref t.a_13)
 g_14:mg "NoText"=some (.ref t.a_14)
 g_15:mg "NoRow"=some (.ref t.a_15)
 g_16:mg "TooMany"=some (.ref t.a_16)
 k_6:zbK K "NoStock" t.a_6
 k_7:zbK K "NoOffer" t.a_7
 k_8:zbK K "NoThing" t.a_8
 k_9:zbK K "NoCover" t.a_9
 k_10:zbK K "NoPaper" t.a_10
 k_11:zbK K "NoNumber" t.a_11
 k_12:zbK K "NotFull" t.a_12
 k_13:zbK K "NotInRow" t.a_13
 k_14:zbK K "NoText" t.a_14
 k_15:zbK K "NoRow" t.a_15
 k_16:zbK K "TooMany" t.a_16
 x_exc:zlz K t.a_5 zcf
 c_MOST_STEPS: ∃ k,mg "MOST_STEPS"=some (.int 100 k)
 m_28:mg "_law_cell"=some (.ref t.a_28)
 F_28:Fun K "_law_cell" "_law_cell" s_28 t.a_28 t.d_28
 b_28:zaH K t.d_28 ["script","k"] []
 m_29:mg "_law_box"=some (.ref t.a_29)
 F_29:Fun K "_law_box" "_law_box" s_29 t.a_29 t.d_29
 b_29:zaH K t.d_29 ["script","k"] []
 m_30:mg "_law_take"=some (.ref t.a_30)
 F_30:Fun K "_law_take" "_law_take" s_30 t.a_30 t.d_30
 b_30:zaH K t.d_30 ["box","many"] []
 m_32:mg "_law_kind"=some (.ref t.a_32)
 F_32:Fun K "_law_kind" "_law_kind" s_32 t.a_32 t.d_32
 b_32:zaH K t.d_32 ["e"] []
 m_0:mg "is_whole"=some (.ref t.a_0)
 F_0:Fun K "is_whole" "is_whole" s_0 t.a_0 t.d_0
 b_0:zaH K t.d_0 ["thing"] []
 m_2:mg "greatest_divisor"=some (.ref t.a_2)
 F_2:Fun K "greatest_divisor" "greatest_divisor" s_2 t.a_2 t.d_2
 b_2:zaH K t.d_2 ["top","bottom"] []
 m_1:mg "reduced"=some (.ref t.a_1)
 F_1:Fun K "reduced" "reduced" s_1 t.a_1 t.d_1
 b_1:zaH K t.d_1 ["top","bottom"] []
 m_4:mg "together"=some (.ref t.a_4)
 F_4:Fun K "together" "together" s_4 t.a_4 t.d_4
 b_4:zaH K t.d_4 ["fractions"] []
 m_25:mg "steps_together"=some (.ref t.a_25)
 F_25:Fun K "steps_together" "steps_together" s_25 t.a_25 t.d_25
 b_25:zaH K t.d_25 ["many"] []
 m_19:mg "things_together"=some (.ref t.a_19)
 F_19:Fun K "things_together" "things_together" s_19 t.a_19 t.d_19
 b_19:zaH K t.d_19 ["offers"] []
 m_20:mg "have_all"=some (.ref t.a_20)
 F_20:Fun K "have_all" "have_all" s_20 t.a_20 t.d_20
 b_20:zaH K t.d_20 ["stock","offers"] []
 m_17:mg "is_full"=some (.ref t.a_17)
 F_17:Fun K "is_full" "is_full" s_17 t.a_17 t.d_17
 b_17:zaH K t.d_17 ["stock"] []
 m_18:mg "need_full"=some (.ref t.a_18)
 F_18:Fun K "need_full" "need_full" s_18 t.a_18 t.d_18
 b_18:zaH K t.d_18 ["stock"] []
 m_24:mg "new_things"=some (.ref t.a_24)
 F_24:Fun K "new_things" "new_things" s_24 t.a_24 t.d_24
 b_24:zaH K t.d_24 ["offer","had"] []
 m_23:mg "bargain_behind"=some (.ref t.a_23)
 F_23:Fun K "bargain_behind" "bargain_behind" s_23 t.a_23 t.d_23
 b_23:zaH K t.d_23 ["offer","had"] []
 m_3:mg "is_less"=some (.ref t.a_3)
 F_3:Fun K "is_less" "is_less" s_3 t.a_3 t.d_3
 b_3:zaH K t.d_3 ["fraction","other"] []
 m_22:mg "best_behind"=some (.ref t.a_22)
 F_22:Fun K "best_behind" "best_behind" s_22 t.a_22 t.d_22
 b_22:zaH K t.d_22 ["stock","had"] []
 m_21:mg "bargain_way"=some (.ref t.a_21)
 F_21:Fun K "bargain_way" "bargain_way" s_21 t.a_21 t.d_21
 b_21:zaH K t.d_21 ["stock"] []
 m_27:mg "borne_by_bargains"=some (.ref t.a_27)
 F_27:Fun K "borne_by_bargains" "borne_by_bargains" s_27 t.a_27 t.d_27
 b_27:zaH K t.d_27 ["stock"] []
 m_26:mg "lessened"=some (.ref t.a_26)
 F_26:Fun K "lessened" "lessened" s_26 t.a_26 t.d_26
 b_26:zaH K t.d_26 ["stock"] []
 m_42:mg "_law_asked"=some (.ref t.a_42)
 F_42:Fun K "_law_asked" "_law_asked" s_42 t.a_42 t.d_42
 b_42:zaH K t.d_42 ["way","thing"] []
 m_37:mg "_law_frac"=some (.ref t.a_37)
 F_37:Fun K "_law_frac" "_law_frac" s_37 t.a_37 t.d_37
 b_37:zaH K t.d_37 ["top","bottom"] []
 m_43:mg "_law_steps"=some (.ref t.a_43)
 F_43:Fun K "_law_steps" "_law_steps" s_43 t.a_43 t.d_43
 b_43:zaH K t.d_43 ["many"] []
 m_31:mg "_law_whole"=some (.ref t.a_31)
 F_31:Fun K "_law_whole" "_law_whole" s_31 t.a_31 t.d_31
 b_31:zaH K t.d_31 ["thing"] []
 m_38:mg "_law_is_frac"=some (.ref t.a_38)
 F_38:Fun K "_law_is_frac" "_law_is_frac" s_38 t.a_38 t.d_38
 b_38:zaH K t.d_38 ["thing"] []
 m_33:mg "_law_things"=some (.ref t.a_33)
 F_33:Fun K "_law_things" "_law_things" s_33 t.a_33 t.d_33
 b_33:zaH K t.d_33 ["box","many"] []
 m_34:mg "_law_full"=some (.ref t.a_34)
 F_34:Fun K "_law_full" "_law_full" s_34 t.a_34 t.d_34
 b_34:zaH K t.d_34 ["box","most","lots"] []
 m_36:mg "_law_has"=some (.ref t.a_36)
 F_36:Fun K "_law_has" "_law_has" s_36 t.a_36 t.d_36
 b_36:zaH K t.d_36 ["stock","lot"] []
 m_39:mg "_law_new"=some (.ref t.a_39)
 F_39:Fun K "_law_new" "_law_new" s_39 t.a_39 t.d_39
 b_39:zaH K t.d_39 ["stock","offer","lot"] []
 m_40:mg "_law_best"=some (.ref t.a_40)
 F_40:Fun K "_law_best" "_law_best" s_40 t.a_40 t.d_40
 b_40:zaH K t.d_40 ["stock","lot"] []
 m_41:mg "_law_way"=some (.ref t.a_41)
 F_41:Fun K "_law_way" "_law_way" s_41 t.a_41 t.d_41
 b_41:zaH K t.d_41 ["stock"] []
 m_44:mg "_law_due"=some (.ref t.a_44)
 F_44:Fun K "_law_due" "_law_due" s_44 t.a_44 t.d_44
 b_44:zaH K t.d_44 ["stock"] []
 m_35:mg "_law_holed"=some (.ref t.a_35)
 F_35:Fun K "_law_holed" "_law_holed" s_35 t.a_35 t.d_35
 b_35:zaH K t.d_35 ["box","stock"] []
 m_45:mg "law"=some (.ref t.a_45)
 F_45:Fun K "law" "law" s_45 t.a_45 t.d_45
 b_45:zaH K t.d_45 ["script"] []
section
variable {P:Program} {w:World} {K:W.Frag} {mg:Str->Option Value} {base:Heap} {t:Ad}
theorem sc_28:zaq ["script","k"] ["script","k"] (zae s_28):=⟨rfl,rfl,rfl,by decide +kernel,rfl,by decide +kernel,by decide +kernel⟩
theorem ok_28 (T:Tx K mg t):zbw P w K mg base CX0 1 t.a_28 t.d_28 ["script","k"] (zb6 K 2 F_28):=by
 refine zbv (k:=0) (G:=G_28) (N:=["script","k"]) (ps:=["script","k"]) (st:=s_28) T.F_28 sc_28 fun cdv A outer s H E hr=> ?_
 refine zaf ?_ ?_
 refine zhQ ?_ ?_ ?_
 refine zaT ?_ ?_ ?_
 exact zgE
 exact zab 1
 refine zaR (id:="len") ?_ ?_ ?_ ?_
 exact za6
 exact zcM
 exact T.n_len
 refine zaa ?_ ?_
 exact zab 0
 exact zad
 refine zak ?_
 refine zaZ ?_
 refine zbj ?_ ?_
 exact zab 0
 exact zab 1
 exact zbZ
 refine zak ?_
 refine zaZ ?_
 refine zbm ?_ ?_ ?_
 exact zaU
 refine zbm ?_ ?_ ?_
 exact za5
 exact zah
 exact zab 1
 exact zah
theorem nd_29:(["script","k","cell","number","mixed","j"]:List Str).Nodup:=by decide +kernel
theorem sc_29:zaq ["script","k","cell","number","mixed","j"] ["script","k"] (zae s_29):=⟨rfl,rfl,rfl,by decide +kernel,rfl,by decide +kernel,by decide +kernel⟩
theorem ok_29 (T:Tx K mg t):zbw P w K mg base CX0 2 t.a_29 t.d_29 ["script","k"] (zb6 K 2 F_29):=by
 have G_28:=ok_28 (P:=P) (w:=w) (base:=base) T
 refine zbv (k:=1) (G:=G_29) (N:=["script","k","cell","number","mixed","j"]) (ps:=["script","k"]) (st:=s_29) T.F_29 sc_29 fun cdv A outer s H E hr=> ?_
 refine zaf ?_ ?_
 refine zaA 2 ?_ ?_
 exact nd_29
 refine zar (k:=1) (g:=t.a_28) (fd:=t.d_28) (ps:=["script","k"]) ?_ ?_ ?_ ?_ ?_ ?_
 exact G_28
 exact (hr.mono (by decide))
 exact T.m_28
 exact T.F_28.kp
 exact T.b_28
 refine zaa ?_ ?_
 exact zab 0
 refine zaa ?_ ?_
 exact zab 1
 exact zad
 refine zaf ?_ ?_
 refine zhQ ?_ ?_ ?_
 refine zaT ?_ ?_ ?_
 exact (ze5 (zfw hr))
 refine zbm ?_ ?_ ?_
 exact zdA
 exact zab 2
 exact zah
 exact zah
 refine zak ?_
 refine zaZ ?_
 refine zd9 ?_
 refine zaa ?_ ?_
 refine zbm ?_ ?_ ?_
 exact zfO
 exact zab 2
 exact zah
 exact zad
 exact zbZ
 refine zaf ?_ ?_
 refine zaA 3 ?_ ?_
 exact nd_29
 exact zah
 refine zaf ?_ ?_
 refine zaA 4 ?_ ?_
 exact nd_29
 refine zbm ?_ ?_ ?_
 exact zdA
 exact zab 2
 exact zah
 refine zaf ?_ ?_
 refine zdE ?_ ?_ ?_ ?_ ?_
 exact rfl
 exact PassesOwn.never
 refine zf2 ?_ ?_
 exact T.n_range
 refine zaa ?_ ?_
 exact zah
 exact zad
 exact zam 5 nd_29
 refine zaf ?_ ?_
 refine zaA 4 ?_ ?_
 exact nd_29
 refine zbm ?_ ?_ ?_
 exact zdA
 refine zbm ?_ ?_ ?_
 exact zaU
 refine zbm ?_ ?_ ?_
 exact zaU
 refine zbm ?_ ?_ ?_
 exact zaU
 refine zbm ?_ ?_ ?_
 exact za5
 exact zab 4
 exact zah
 refine zbm ?_ ?_ ?_
 exact za5
 refine zbm ?_ ?_ ?_
 exact za5
 exact zah
 exact zab 5
 exact zab 5
 refine zbm ?_ ?_ ?_
 exact za5
 exact zah
 exact zab 1
 exact zah
 exact zah
 refine zak ?_
 refine zaA 3 ?_ ?_
 exact nd_29
 refine zbm ?_ ?_ ?_
 exact zaU
 refine zbm ?_ ?_ ?_
 exact za5
 exact zab 3
 exact zah
 exact zab 4
 refine zak ?_
 refine zaZ ?_
 refine zd9 ?_
 refine zaa ?_ ?_
 exact zab 3
 exact zad
theorem nd_30:(["box","many","digit"]:List Str).Nodup:=by decide +kernel
theorem sc_30:zaq ["box","many","digit"] ["box","many"] (zae s_30):=⟨rfl,rfl,rfl,by decide +kernel,rfl,by decide +kernel,by decide +kernel⟩
theorem ok_30 (T:Tx K mg t):zbw P w K mg base CX0 1 t.a_30 t.d_30 ["box","many"] (zb6 K 2 F_30):=by
 refine zbv (k:=0) (G:=G_30) (N:=["box","many","digit"]) (ps:=["box","many"]) (st:=s_30) T.F_30 sc_30 fun cdv A outer s H E hr=> ?_
 refine zaf ?_ ?_
 refine zaA 2 ?_ ?_
 exact nd_30
 refine zbm ?_ ?_ ?_
 exact zdA
 refine zbj ?_ ?_
 exact zab 0
 exact zah
 exact zab 1
 refine zaf ?_ ?_
 refine zhS ?_ ?_
 refine zbm ?_ ?_ ?_
 exact zfO
 refine zbj ?_ ?_
 exact zab 0
 exact zah
 exact zab 1
 refine zm8 ?_ ?_
 exact zab 0
 exact zah
 refine zak ?_
 refine zaZ ?_
 exact zab 2
theorem nd_32:(["e","kinds","words"]:List Str).Nodup:=by decide +kernel
theorem zsN:(["kind"]:List Str).Nodup:=by decide +kernel
theorem sc_32:zaq ["e","kinds","words"] ["e"] (zae s_32):=⟨rfl,rfl,rfl,by decide +kernel,rfl,by decide +kernel,by decide +kernel⟩
theorem ok_32 (T:Tx K mg t):FnH P w K mg base  1 t.a_32 t.d_32 ["e"] (zb6 K 1 F_32):=by
 refine zqP (k:=0) (G:=G_32) (N:=["e","kinds","words"]) (ps:=["e"]) (st:=s_32) T.F_32 sc_32 fun cdv A outer s H hr=> ?_
 refine zaf ?_ ?_
 refine zaA 1 ?_ ?_
 exact nd_32
 refine zfl ?_
 refine zaa ?_ ?_
 refine zeU (CE:=t.a_5) (CC:=t.a_6) ?_ ?_ ?_ ?_ ?_ ?_
 exact T.x_exc
 exact (by decide +kernel)
 exact T.k_6
 exact T.n_isinstance
 exact T.g_6
 exact zab 0
 refine zaa ?_ ?_
 refine zeU (CE:=t.a_5) (CC:=t.a_7) ?_ ?_ ?_ ?_ ?_ ?_
 exact T.x_exc
 exact (by decide +kernel)
 exact T.k_7
 exact T.n_isinstance
 exact T.g_7
 exact zab 0
 refine zaa ?_ ?_
 refine zeU (CE:=t.a_5) (CC:=t.a_8) ?_ ?_ ?_ ?_ ?_ ?_
 exact T.x_exc
 exact (by decide +kernel)
 exact T.k_8
 exact T.n_isinstance
 exact T.g_8
 exact zab 0
 refine zaa ?_ ?_
 refine zeU (CE:=t.a_5) (CC:=t.a_9) ?_ ?_ ?_ ?_ ?_ ?_
 exact T.x_exc
 exact (by decide +kernel)
 exact T.k_9
 exact T.n_isinstance
 exact T.g_9
 exact zab 0
 exact zad
 refine zaf ?_ ?_
 refine zaA 1 ?_ ?_
 exact nd_32
 refine zbm ?_ ?_ ?_
 exact zaU
 exact zab 1
 refine zfl ?_
 refine zaa ?_ ?_
 refine zeU (CE:=t.a_5) (CC:=t.a_10) ?_ ?_ ?_ ?_ ?_ ?_
 exact T.x_exc
 exact (by decide +kernel)
 exact T.k_10
 exact T.n_isinstance
 exact T.g_10
 exact zab 0
 refine zaa ?_ ?_
 refine zeU (CE:=t.a_5) (CC:=t.a_11) ?_ ?_ ?_ ?_ ?_ ?_
 exact T.x_exc
 exact (by decide +kernel)
 exact T.k_11
 exact T.n_isinstance
 exact T.g_11
 exact zab 0
 refine zaa ?_ ?_
 refine zeU (CE:=t.a_5) (CC:=t.a_12) ?_ ?_ ?_ ?_ ?_ ?_
 exact T.x_exc
 exact (by decide +kernel)
 exact T.k_12
 exact T.n_isinstance
 exact T.g_12
 exact zab 0
 refine zaa ?_ ?_
 refine zeU (CE:=t.a_5) (CC:=t.a_13) ?_ ?_ ?_ ?_ ?_ ?_
 exact T.x_exc
 exact (by decide +kernel)
 exact T.k_13
 exact T.n_isinstance
 exact T.g_13
 exact zab 0
 exact zad
 refine zaf ?_ ?_
 refine zaA 1 ?_ ?_
 exact nd_32
 refine zbm ?_ ?_ ?_
 exact zaU
 exact zab 1
 refine zfl ?_
 refine zaa ?_ ?_
 refine zeU (CE:=t.a_5) (CC:=t.a_14) ?_ ?_ ?_ ?_ ?_ ?_
 exact T.x_exc
 exact (by decide +kernel)
 exact T.k_14
 exact T.n_isinstance
 exact T.g_14
 exact zab 0
 refine zaa ?_ ?_
 refine zeU (CE:=t.a_5) (CC:=t.a_15) ?_ ?_ ?_ ?_ ?_ ?_
 exact T.x_exc
 exact (by decide +kernel)
 exact T.k_15
 exact T.n_isinstance
 exact T.g_15
 exact zab 0
 refine zaa ?_ ?_
 refine zeU (CE:=t.a_5) (CC:=t.a_16) ?_ ?_ ?_ ?_ ?_ ?_
 exact T.x_exc
 exact (by decide +kernel)
 exact T.k_16
 exact T.n_isinstance
 exact T.g_16
 exact zab 0
 exact zad
 refine zaf ?_ ?_
 refine zhQ ?_ ?_ ?_
 refine zc4 ?_
 refine zeK ?_ ?_
 refine zdP ?_
 refine zdo ?_
 refine zrm (CE:=t.a_5) ?_ ?_ ?_ ?_
 exact T.x_exc
 exact T.n_isinstance
 exact T.n_ValueError
 exact zab 0
 refine zeZ ?_
 refine zaT ?_ ?_ ?_
 exact (zdB (zrT hr))
 refine zaR (id:="sum") ?_ ?_ ?_ ?_
 exact zi7
 exact zm9
 exact T.n_sum
 refine zaa ?_ ?_
 refine zof (N:=["kind"]) ?_ ?_ ?_ ?_ ?_ ?_
 exact (BOk.of (Xn:=(zae s_32).names) (XN:=["e","kinds","words"]) rfl rfl rfl (by decide +kernel))
 exact (zaQ.name (i:=0) rfl)
 refine zb7 ?_
 exact zab 1
 intro _ _ _
 exact zam 0 zsN
 intro _ _ _
 exact zcB
 intro _ _ _
 refine zbd (T:="int") ?_ ?_ ?_ ?_
 exact zje
 exact zlx
 exact T.n_int
 refine zaa ?_ ?_
 exact zab 0
 exact zad
 exact zad
 exact zah
 refine zak ?_
 refine zaZ ?_
 exact zdm
 exact zbZ
 refine zaf ?_ ?_
 refine zaA 2 ?_ ?_
 exact nd_32
 refine zfl ?_
 refine zaa ?_ ?_
 exact zdm
 refine zaa ?_ ?_
 exact zdm
 refine zaa ?_ ?_
 exact zdm
 refine zaa ?_ ?_
 exact zdm
 refine zaa ?_ ?_
 exact zdm
 refine zaa ?_ ?_
 exact zdm
 refine zaa ?_ ?_
 exact zdm
 refine zaa ?_ ?_
 exact zdm
 refine zaa ?_ ?_
 exact zdm
 refine zaa ?_ ?_
 exact zdm
 refine zaa ?_ ?_
 exact zdm
 exact zad
 refine zak ?_
 refine zaZ ?_
 refine zbm ?_ ?_ ?_
 exact zaU
 exact zdm
 refine zbj ?_ ?_
 exact zab 2
 refine zoE ?_
 exact zab 1
theorem sc_0:zaq ["thing"] ["thing"] (zae s_0):=⟨rfl,rfl,rfl,by decide +kernel,rfl,by decide +kernel,by decide +kernel⟩
theorem ok_0 (T:Tx K mg t):zbw P w K mg base CX0 1 t.a_0 t.d_0 ["thing"] (zb6 K 1 F_0):=by
 refine zbv (k:=0) (G:=G_0) (N:=["thing"]) (ps:=["thing"]) (st:=s_0) T.F_0 sc_0 fun cdv A outer s H E hr=> ?_
 refine zak ?_
 refine zaZ ?_
 refine zl6 ?_ ?_
 refine zjd ?_ ?_ ?_ ?_ ?_
 exact zjv
 exact zlx
 exact T.n_isinstance
 exact T.n_int
 exact zab 0
 refine zme ?_
 refine zre ?_
 refine zjd ?_ ?_ ?_ ?_ ?_
 exact zin
 exact zls
 exact T.n_isinstance
 exact T.n_bool
 exact zab 0
theorem nd_2:(["top","bottom","one","other","rest"]:List Str).Nodup:=by decide +kernel
theorem sc_2:zaq ["top","bottom","one","other","rest"] ["top","bottom"] (zae s_2):=⟨rfl,rfl,rfl,by decide +kernel,rfl,by decide +kernel,by decide +kernel⟩
theorem ok_2 (T:Tx K mg t):zbw P w K mg base CX0 1 t.a_2 t.d_2 ["top","bottom"] (zb6 K 2 F_2):=by
 refine zbv (k:=0) (G:=G_2) (N:=["top","bottom","one","other","rest"]) (ps:=["top","bottom"]) (st:=s_2) T.F_2 sc_2 fun cdv A outer s H E hr=> ?_
 refine zaf ?_ ?_
 refine zaA 2 ?_ ?_
 exact nd_2
 exact zab 0
 refine zaf ?_ ?_
 refine zaA 3 ?_ ?_
 exact nd_2
 exact zab 1
 refine zaf ?_ ?_
 refine zfI 3000 ?_ ?_ ?_
 exact PassesOwn.never
 refine zaT ?_ ?_ ?_
 exact zgH
 exact zab 3
 exact zah
 refine zaf ?_ ?_
 refine zaA 4 ?_ ?_
 exact nd_2
 refine zbm ?_ ?_ ?_
 exact zdA
 exact zab 2
 exact zab 3
 refine zaf ?_ ?_
 refine zaA 2 ?_ ?_
 exact nd_2
 exact zab 3
 refine zak ?_
 refine zaA 3 ?_ ?_
 exact nd_2
 exact zab 4
 refine zak ?_
 refine zaZ ?_
 exact zab 2
theorem nd_1:(["top","bottom","shared"]:List Str).Nodup:=by decide +kernel
theorem sc_1:zaq ["top","bottom","shared"] ["top","bottom"] (zae s_1):=⟨rfl,rfl,rfl,by decide +kernel,rfl,by decide +kernel,by decide +kernel⟩
theorem ok_1 (T:Tx K mg t):zbw P w K mg base CX0 2 t.a_1 t.d_1 ["top","bottom"] (zb6 K 2 F_1):=by
 have G_2:=ok_2 (P:=P) (w:=w) (base:=base) T
 refine zbv (k:=1) (G:=G_1) (N:=["top","bottom","shared"]) (ps:=["top","bottom"]) (st:=s_1) T.F_1 sc_1 fun cdv A outer s H E hr=> ?_
 refine zaf ?_ ?_
 refine zaA 2 ?_ ?_
 exact nd_1
 refine zar (k:=1) (g:=t.a_2) (fd:=t.d_2) (ps:=["top","bottom"]) ?_ ?_ ?_ ?_ ?_ ?_
 exact G_2
 exact (hr.mono (by decide))
 exact T.m_2
 exact T.F_2.kp
 exact T.b_2
 refine zaa ?_ ?_
 exact zab 0
 refine zaa ?_ ?_
 exact zab 1
 exact zad
 refine zak ?_
 refine zaZ ?_
 refine zcu ?_
 refine zaa ?_ ?_
 refine zbm ?_ ?_ ?_
 exact zev
 exact zab 0
 exact zab 2
 refine zaa ?_ ?_
 refine zbm ?_ ?_ ?_
 exact zev
 exact zab 1
 exact zab 2
 exact zad
theorem nd_4:(["fractions","top","bottom","fraction"]:List Str).Nodup:=by decide +kernel
theorem sc_4:zaq ["fractions","top","bottom","fraction"] ["fractions"] (zae s_4):=⟨rfl,rfl,rfl,by decide +kernel,rfl,by decide +kernel,by decide +kernel⟩
theorem ok_4 (T:Tx K mg t):zbw P w K mg base CX0 3 t.a_4 t.d_4 ["fractions"] (zb6 K 1 F_4):=by
 have G_1:=ok_1 (P:=P) (w:=w) (base:=base) T
 refine zbv (k:=2) (G:=G_4) (N:=["fractions","top","bottom","fraction"]) (ps:=["fractions"]) (st:=s_4) T.F_4 sc_4 fun cdv A outer s H E hr=> ?_
 refine zaf ?_ ?_
 refine zaA 1 ?_ ?_
 exact nd_4
 exact zah
 refine zaf ?_ ?_
 refine zaA 2 ?_ ?_
 exact nd_4
 exact zah
 refine zaf ?_ ?_
 refine zdE ?_ ?_ ?_ ?_ ?_
 exact rfl
 exact PassesOwn.never
 refine zb7 ?_
 exact zab 0
 exact zam 3 nd_4
 refine zaf ?_ ?_
 refine zaA 1 ?_ ?_
 exact nd_4
 refine zbm ?_ ?_ ?_
 exact zaU
 refine zbm ?_ ?_ ?_
 exact za5
 exact zab 1
 refine zbj ?_ ?_
 exact zab 3
 exact zah
 refine zbm ?_ ?_ ?_
 exact za5
 refine zbj ?_ ?_
 exact zab 3
 exact zah
 exact zab 2
 refine zak ?_
 refine zaA 2 ?_ ?_
 exact nd_4
 refine zbm ?_ ?_ ?_
 exact za5
 exact zab 2
 refine zbj ?_ ?_
 exact zab 3
 exact zah
 refine zak ?_
 refine zaZ ?_
 refine zar (k:=2) (g:=t.a_1) (fd:=t.d_1) (ps:=["top","bottom"]) ?_ ?_ ?_ ?_ ?_ ?_
 exact G_1
 exact (hr.mono (by decide))
 exact T.m_1
 exact T.F_1.kp
 exact T.b_1
 refine zaa ?_ ?_
 exact zab 1
 refine zaa ?_ ?_
 exact zab 2
 exact zad
theorem zr2:(["step"]:List Str).Nodup:=by decide +kernel
theorem sc_25:zaq ["many"] ["many"] (zae s_25):=⟨rfl,rfl,rfl,by decide +kernel,rfl,by decide +kernel,by decide +kernel⟩
theorem ok_25 (T:Tx K mg t):zbw P w K mg base (CXE P w) 4 t.a_25 t.d_25 ["many"] (spE K 1 F_25):=by
 have G_0:=ok_0 (P:=P) (w:=w) (base:=base) T
 have G_4:=ok_4 (P:=P) (w:=w) (base:=base) T
 refine zgy (k:=3) (G:=G_25) (N:=["many"]) (ps:=["many"]) (st:=s_25) T.F_25 sc_25 fun cdv A outer s H E hr=> ?_
 refine zaf ?_ ?_
 refine zhQ ?_ ?_ ?_
 refine zc4 ?_
 refine zeK ?_ ?_
 refine zdP ?_
 refine zdo ?_
 refine zf6 (k:=1) (g:=t.a_0) (fd:=t.d_0) (ps:=["thing"]) ?_ ?_ ?_ ?_ ?_ ?_
 exact G_0
 exact (hr.mono (by decide))
 exact T.m_0
 exact T.F_0.kp
 exact T.b_0
 refine zaa ?_ ?_
 exact zab 0
 exact zad
 refine zeK ?_ ?_
 refine zaT ?_ ?_ ?_
 exact zgE
 exact zab 0
 exact zah
 refine zeZ ?_
 refine zaT ?_ ?_ ?_
 exact zgH
 exact zab 0
 exact znM T.c_MOST_STEPS
 refine zak ?_
 exact zle (c:="NoNumber") rfl zig T.x_exc (by decide +kernel) T.k_11
 exact zbZ
 refine zak ?_
 refine zaZ ?_
 refine zf6 (k:=3) (g:=t.a_4) (fd:=t.d_4) (ps:=["fractions"]) ?_ ?_ ?_ ?_ ?_ ?_
 exact G_4
 exact (hr.mono (by decide))
 exact T.m_4
 exact T.F_4.kp
 exact T.b_4
 refine zaa ?_ ?_
 refine zbF (N:=["step"]) ?_ ?_ ?_ ?_ ?_ ?_ ?_
 exact rfl
 exact (BOk.of (Xn:=(zae s_25).names) (XN:=["many"]) rfl rfl rfl (by decide +kernel))
 exact (zaQ.name (i:=0) rfl)
 refine zlm ?_ ?_
 exact T.n_range
 refine zaa ?_ ?_
 exact zah
 refine zaa ?_ ?_
 refine zbm ?_ ?_ ?_
 exact zaU
 exact zab 0
 exact zah
 exact zad
 intro _ _ _
 exact zam 0 zr2
 intro _ _ _
 exact zcB
 intro _ _ _
 refine zcu ?_
 refine zaa ?_ ?_
 exact zah
 refine zaa ?_ ?_
 exact zab 0
 exact zad
 exact zad
theorem nd_19:(["offers","things","offer"]:List Str).Nodup:=by decide +kernel
theorem sc_19:zaq ["offers","things","offer"] ["offers"] (zae s_19):=⟨rfl,rfl,rfl,by decide +kernel,rfl,by decide +kernel,by decide +kernel⟩
theorem ok_19 (T:Tx K mg t):zbw P w K mg base CX0 1 t.a_19 t.d_19 ["offers"] (zb6 K 1 F_19):=by
 refine zbv (k:=0) (G:=G_19) (N:=["offers","things","offer"]) (ps:=["offers"]) (st:=s_19) T.F_19 sc_19 fun cdv A outer s H E hr=> ?_
 refine zaf ?_ ?_
 refine zaA 1 ?_ ?_
 exact nd_19
 refine zd9 ?_
 exact zad
 refine zaf ?_ ?_
 refine zdE ?_ ?_ ?_ ?_ ?_
 exact rfl
 exact PassesOwn.never
 refine zb7 ?_
 exact zab 0
 exact zam 2 nd_19
 refine zak ?_
 refine zfs ?_
 refine zh1 ?_ ?_
 exact zab 1
 refine zbj ?_ ?_
 exact zab 2
 exact zah
 refine zak ?_
 refine zaZ ?_
 refine zbd (T:="tuple") ?_ ?_ ?_ ?_
 exact zaJ
 exact za8
 exact T.n_tuple
 refine zaa ?_ ?_
 refine zgk ?_ ?_ ?_ ?_
 exact rfl
 exact T.n_sorted
 exact T.n_set
 exact zab 1
 exact zad
theorem sc_20:zaq ["stock","offers"] ["stock","offers"] (zae s_20):=⟨rfl,rfl,rfl,by decide +kernel,rfl,by decide +kernel,by decide +kernel⟩
theorem ok_20 (T:Tx K mg t):zbw P w K mg base CX0 2 t.a_20 t.d_20 ["stock","offers"] (zb6 K 2 F_20):=by
 have G_19:=ok_19 (P:=P) (w:=w) (base:=base) T
 refine zbv (k:=1) (G:=G_20) (N:=["stock","offers"]) (ps:=["stock","offers"]) (st:=s_20) T.F_20 sc_20 fun cdv A outer s H E hr=> ?_
 refine zak ?_
 refine zaZ ?_
 refine zjf ?_ ?_ ?_
 exact (ze5 (zfw hr))
 refine zaR (id:="len") ?_ ?_ ?_ ?_
 exact za6
 exact zcM
 exact T.n_len
 refine zaa ?_ ?_
 refine zar (k:=1) (g:=t.a_19) (fd:=t.d_19) (ps:=["offers"]) ?_ ?_ ?_ ?_ ?_ ?_
 exact G_19
 exact (hr.mono (by decide))
 exact T.m_19
 exact T.F_19.kp
 exact T.b_19
 refine zaa ?_ ?_
 exact zab 1
 exact zad
 exact zad
 refine zbj ?_ ?_
 exact zab 0
 exact zah
theorem sc_17:zaq ["stock"] ["stock"] (zae s_17):=⟨rfl,rfl,rfl,by decide +kernel,rfl,by decide +kernel,by decide +kernel⟩
theorem ok_17 (T:Tx K mg t):zbw P w K mg base CX0 3 t.a_17 t.d_17 ["stock"] (zb6 K 1 F_17):=by
 have G_20:=ok_20 (P:=P) (w:=w) (base:=base) T
 refine zbv (k:=2) (G:=G_17) (N:=["stock"]) (ps:=["stock"]) (st:=s_17) T.F_17 sc_17 fun cdv A outer s H E hr=> ?_
 refine zak ?_
 refine zaZ ?_
 refine zar (k:=2) (g:=t.a_20) (fd:=t.d_20) (ps:=["stock","offers"]) ?_ ?_ ?_ ?_ ?_ ?_
 exact G_20
 exact (hr.mono (by decide))
 exact T.m_20
 exact T.F_20.kp
 exact T.b_20
 refine zaa ?_ ?_
 exact zab 0
 refine zaa ?_ ?_
 refine zbj ?_ ?_
 exact zab 0
 exact zah
 exact zad
theorem sc_18:zaq ["stock"] ["stock"] (zae s_18):=⟨rfl,rfl,rfl,by decide +kernel,rfl,by decide +kernel,by decide +kernel⟩
theorem ok_18 (T:Tx K mg t):zbw P w K mg base (CXE P w) 4 t.a_18 t.d_18 ["stock"] (spE K 1 F_18):=by
 have G_17:=ok_17 (P:=P) (w:=w) (base:=base) T
 refine zgy (k:=3) (G:=G_18) (N:=["stock"]) (ps:=["stock"]) (st:=s_18) T.F_18 sc_18 fun cdv A outer s H E hr=> ?_
 refine zak ?_
 refine zhQ ?_ ?_ ?_
 refine zdP ?_
 refine zdo ?_
 refine zf6 (k:=3) (g:=t.a_17) (fd:=t.d_17) (ps:=["stock"]) ?_ ?_ ?_ ?_ ?_ ?_
 exact G_17
 exact (hr.mono (by decide))
 exact T.m_17
 exact T.F_17.kp
 exact T.b_17
 refine zaa ?_ ?_
 exact zab 0
 exact zad
 refine zak ?_
 exact zle (c:="NotFull") rfl zig T.x_exc (by decide +kernel) T.k_12
 exact zbZ
theorem zsJ:(["thing","had"]:List Str).Nodup:=by decide +kernel
theorem sc_24:zaq ["offer","had"] ["offer","had"] (zae s_24):=⟨rfl,rfl,rfl,by decide +kernel,rfl,by decide +kernel,by decide +kernel⟩
theorem ok_24 (T:Tx K mg t):zbw P w K mg base CX0 1 t.a_24 t.d_24 ["offer","had"] (zb6 K 2 F_24):=by
 refine zbv (k:=0) (G:=G_24) (N:=["offer","had"]) (ps:=["offer","had"]) (st:=s_24) T.F_24 sc_24 fun cdv A outer s H E hr=> ?_
 refine zak ?_
 refine zaZ ?_
 refine zbd (T:="tuple") ?_ ?_ ?_ ?_
 exact zaJ
 exact za8
 exact T.n_tuple
 refine zaa ?_ ?_
 refine zbF (N:=["thing","had"]) ?_ ?_ ?_ ?_ ?_ ?_ ?_
 exact rfl
 exact (BOk.of (Xn:=(zae s_24).names) (XN:=["offer","had"]) rfl rfl rfl (by decide +kernel))
 exact (zaQ.name (i:=0) rfl)
 refine zb7 ?_
 refine zbj ?_ ?_
 exact zab 0
 exact zah
 intro _ _ _
 exact zam 0 zsJ
 intro _ _ _
 refine zeX ?_
 refine zaT ?_ ?_ ?_
 exact (zj4 (zfw hr))
 exact zab 0
 exact zab 1
 intro _ _ _
 exact zab 0
 exact zad
theorem nd_23:(["offer","had","many"]:List Str).Nodup:=by decide +kernel
theorem sc_23:zaq ["offer","had","many"] ["offer","had"] (zae s_23):=⟨rfl,rfl,rfl,by decide +kernel,rfl,by decide +kernel,by decide +kernel⟩
theorem ok_23 (T:Tx K mg t):zbw P w K mg base CX0 3 t.a_23 t.d_23 ["offer","had"] (zb6 K 2 F_23):=by
 have G_24:=ok_24 (P:=P) (w:=w) (base:=base) T
 have G_1:=ok_1 (P:=P) (w:=w) (base:=base) T
 refine zbv (k:=2) (G:=G_23) (N:=["offer","had","many"]) (ps:=["offer","had"]) (st:=s_23) T.F_23 sc_23 fun cdv A outer s H E hr=> ?_
 refine zaf ?_ ?_
 refine zaA 2 ?_ ?_
 exact nd_23
 refine zaR (id:="len") ?_ ?_ ?_ ?_
 exact za6
 exact zcM
 exact T.n_len
 refine zaa ?_ ?_
 refine zar (k:=1) (g:=t.a_24) (fd:=t.d_24) (ps:=["offer","had"]) ?_ ?_ ?_ ?_ ?_ ?_
 exact G_24
 exact (hr.mono (by decide))
 exact T.m_24
 exact T.F_24.kp
 exact T.b_24
 refine zaa ?_ ?_
 exact zab 0
 refine zaa ?_ ?_
 exact zab 1
 exact zad
 exact zad
 refine zak ?_
 refine zaZ ?_
 refine zpZ ?_ ?_ ?_
 refine zaT ?_ ?_ ?_
 exact zgH
 exact zab 2
 exact zah
 refine zar (k:=2) (g:=t.a_1) (fd:=t.d_1) (ps:=["top","bottom"]) ?_ ?_ ?_ ?_ ?_ ?_
 exact G_1
 exact (hr.mono (by decide))
 exact T.m_1
 exact T.F_1.kp
 exact T.b_1
 refine zaa ?_ ?_
 refine zbj ?_ ?_
 exact zab 0
 exact zah
 refine zaa ?_ ?_
 exact zab 2
 exact zad
 exact zeH
theorem sc_3:zaq ["fraction","other"] ["fraction","other"] (zae s_3):=⟨rfl,rfl,rfl,by decide +kernel,rfl,by decide +kernel,by decide +kernel⟩
theorem ok_3 (T:Tx K mg t):zbw P w K mg base CX0 1 t.a_3 t.d_3 ["fraction","other"] (zb6 K 2 F_3):=by
 refine zbv (k:=0) (G:=G_3) (N:=["fraction","other"]) (ps:=["fraction","other"]) (st:=s_3) T.F_3 sc_3 fun cdv A outer s H E hr=> ?_
 refine zak ?_
 refine zaZ ?_
 refine zjf ?_ ?_ ?_
 exact zgE
 refine zbm ?_ ?_ ?_
 exact za5
 refine zbj ?_ ?_
 exact zab 0
 exact zah
 refine zbj ?_ ?_
 exact zab 1
 exact zah
 refine zbm ?_ ?_ ?_
 exact za5
 refine zbj ?_ ?_
 exact zab 1
 exact zah
 refine zbj ?_ ?_
 exact zab 0
 exact zah
theorem nd_22:(["stock","had","best","least","number","offer","bargain"]:List Str).Nodup:=by decide +kernel
theorem sc_22:zaq ["stock","had","best","least","number","offer","bargain"] ["stock","had"] (zae s_22):=⟨rfl,rfl,rfl,by decide +kernel,rfl,by decide +kernel,by decide +kernel⟩
theorem ok_22 (T:Tx K mg t):zbw P w K mg base CX0 4 t.a_22 t.d_22 ["stock","had"] (zb6 K 2 F_22):=by
 have G_23:=ok_23 (P:=P) (w:=w) (base:=base) T
 have G_3:=ok_3 (P:=P) (w:=w) (base:=base) T
 refine zbv (k:=3) (G:=G_22) (N:=["stock","had","best","least","number","offer","bargain"]) (ps:=["stock","had"]) (st:=s_22) T.F_22 sc_22 fun cdv A outer s H E hr=> ?_
 refine zaf ?_ ?_
 refine zaA 2 ?_ ?_
 exact nd_22
 exact zeH
 refine zaf ?_ ?_
 refine zaA 3 ?_ ?_
 exact nd_22
 exact zeH
 refine zaf ?_ ?_
 refine zdE ?_ ?_ ?_ ?_ ?_
 exact rfl
 exact PassesOwn.never
 refine zqK ?_ ?_
 exact T.n_enumerate
 refine zbj ?_ ?_
 exact zab 0
 exact zah
 refine zed ?_ ?_
 exact rfl
 refine zaS ?_ ?_
 exact zam 4 nd_22
 refine zaS ?_ ?_
 exact zam 5 nd_22
 exact zcT
 refine zaf ?_ ?_
 refine zaA 6 ?_ ?_
 exact nd_22
 refine zar (k:=3) (g:=t.a_23) (fd:=t.d_23) (ps:=["offer","had"]) ?_ ?_ ?_ ?_ ?_ ?_
 exact G_23
 exact (hr.mono (by decide))
 exact T.m_23
 exact T.F_23.kp
 exact T.b_23
 refine zaa ?_ ?_
 exact zab 5
 refine zaa ?_ ?_
 exact zab 1
 exact zad
 refine zak ?_
 refine zhQ ?_ ?_ ?_
 refine zc4 ?_
 refine zqO ?_ ?_
 refine zaT ?_ ?_ ?_
 exact zjF
 exact zab 6
 exact zeH
 refine zoQ ?_
 refine zc4 ?_
 refine zeK ?_ ?_
 refine zaT ?_ ?_ ?_
 exact zim
 exact zab 3
 exact zeH
 refine zeZ ?_
 refine zdo ?_
 refine zar (k:=1) (g:=t.a_3) (fd:=t.d_3) (ps:=["fraction","other"]) ?_ ?_ ?_ ?_ ?_ ?_
 exact G_3
 exact (hr.mono (by decide))
 exact T.m_3
 exact T.F_3.kp
 exact T.b_3
 refine zaa ?_ ?_
 exact zab 6
 refine zaa ?_ ?_
 exact zab 3
 exact zad
 refine zaf ?_ ?_
 refine zaA 2 ?_ ?_
 exact nd_22
 exact zab 4
 refine zak ?_
 refine zaA 3 ?_ ?_
 exact nd_22
 exact zab 6
 exact zbZ
 refine zak ?_
 refine zaZ ?_
 exact zab 2
theorem nd_21:(["stock","way","had","number","offer","things"]:List Str).Nodup:=by decide +kernel
theorem sc_21:zaq ["stock","way","had","number","offer","things"] ["stock"] (zae s_21):=⟨rfl,rfl,rfl,by decide +kernel,rfl,by decide +kernel,by decide +kernel⟩
theorem ok_21 (T:Tx K mg t):zbw P w K mg base (CXE P w) 5 t.a_21 t.d_21 ["stock"] (spE K 1 F_21):=by
 have G_18:=ok_18 (P:=P) (w:=w) (base:=base) T
 have G_22:=ok_22 (P:=P) (w:=w) (base:=base) T
 have G_24:=ok_24 (P:=P) (w:=w) (base:=base) T
 have G_23:=ok_23 (P:=P) (w:=w) (base:=base) T
 refine zgy (k:=4) (G:=G_21) (N:=["stock","way","had","number","offer","things"]) (ps:=["stock"]) (st:=s_21) T.F_21 sc_21 fun cdv A outer s H E hr=> ?_
 refine zaf ?_ ?_
 refine zfs ?_
 refine zeY (k:=4) (g:=t.a_18) (fd:=t.d_18) (ps:=["stock"]) ?_ ?_ ?_ ?_ ?_ ?_ ?_
 exact G_18
 exact zf1
 exact (hr.mono (by decide))
 exact T.m_18
 exact T.F_18.kp
 exact T.b_18
 refine zaa ?_ ?_
 exact zab 0
 exact zad
 refine zaf ?_ ?_
 refine zaA 1 ?_ ?_
 exact nd_21
 refine zd9 ?_
 exact zad
 refine zaf ?_ ?_
 refine zaA 2 ?_ ?_
 exact nd_21
 refine zd9 ?_
 exact zad
 refine zaf ?_ ?_
 refine zpy ?_
 refine zfI 1000 ?_ ?_ ?_
 exact PassesOwn.never
 refine zaT ?_ ?_ ?_
 exact zgE
 refine zaR (id:="len") ?_ ?_ ?_ ?_
 exact za6
 exact zcM
 exact T.n_len
 refine zaa ?_ ?_
 exact zab 2
 exact zad
 refine zbj ?_ ?_
 exact zab 0
 exact zah
 refine zaf ?_ ?_
 refine zaA 3 ?_ ?_
 exact nd_21
 refine zar (k:=4) (g:=t.a_22) (fd:=t.d_22) (ps:=["stock","had"]) ?_ ?_ ?_ ?_ ?_ ?_
 exact G_22
 exact (hr.mono (by decide))
 exact T.m_22
 exact T.F_22.kp
 exact T.b_22
 refine zaa ?_ ?_
 exact zab 0
 refine zaa ?_ ?_
 exact zab 2
 exact zad
 refine zaf ?_ ?_
 refine zaA 4 ?_ ?_
 exact nd_21
 refine zbj ?_ ?_
 refine zbj ?_ ?_
 exact zab 0
 exact zah
 exact zab 3
 refine zaf ?_ ?_
 refine zaA 5 ?_ ?_
 exact nd_21
 refine zar (k:=1) (g:=t.a_24) (fd:=t.d_24) (ps:=["offer","had"]) ?_ ?_ ?_ ?_ ?_ ?_
 exact G_24
 exact (hr.mono (by decide))
 exact T.m_24
 exact T.F_24.kp
 exact T.b_24
 refine zaa ?_ ?_
 exact zab 4
 refine zaa ?_ ?_
 exact zab 2
 exact zad
 refine zaf ?_ ?_
 refine zfs ?_
 refine zfU ?_ ?_
 exact zab 1
 refine zcu ?_
 refine zaa ?_ ?_
 exact zab 3
 refine zaa ?_ ?_
 exact zab 5
 refine zaa ?_ ?_
 refine zar (k:=3) (g:=t.a_23) (fd:=t.d_23) (ps:=["offer","had"]) ?_ ?_ ?_ ?_ ?_ ?_
 exact G_23
 exact (hr.mono (by decide))
 exact T.m_23
 exact T.F_23.kp
 exact T.b_23
 refine zaa ?_ ?_
 exact zab 4
 refine zaa ?_ ?_
 exact zab 2
 exact zad
 exact zad
 refine zak ?_
 refine zfs ?_
 refine zh1 ?_ ?_
 exact zab 2
 exact zab 5
 refine zak ?_
 refine zaZ ?_
 refine znW ?_
 exact zab 1
theorem nd_27:(["stock","borne","step","thing"]:List Str).Nodup:=by decide +kernel
theorem zsE:(["thing","borne"]:List Str).Nodup:=by decide +kernel
theorem sc_27:zaq ["stock","borne","step","thing"] ["stock"] (zae s_27):=⟨rfl,rfl,rfl,by decide +kernel,rfl,by decide +kernel,by decide +kernel⟩
theorem ok_27 (T:Tx K mg t):zbw P w K mg base (CXE P w) 6 t.a_27 t.d_27 ["stock"] (spE K 1 F_27):=by
 have G_21:=ok_21 (P:=P) (w:=w) (base:=base) T
 refine zgy (k:=5) (G:=G_27) (N:=["stock","borne","step","thing"]) (ps:=["stock"]) (st:=s_27) T.F_27 sc_27 fun cdv A outer s H E hr=> ?_
 refine zaf ?_ ?_
 refine zaA 1 ?_ ?_
 exact nd_27
 exact zpA
 refine zaf ?_ ?_
 refine zqI ?_ ?_
 refine zdE ?_ ?_ ?_ ?_ ?_
 exact rfl
 exact PassesOwn.never
 refine zb7 ?_
 refine zeY (k:=5) (g:=t.a_21) (fd:=t.d_21) (ps:=["stock"]) ?_ ?_ ?_ ?_ ?_ ?_ ?_
 exact G_21
 exact znQ
 exact (hr.mono (by decide))
 exact T.m_21
 exact T.F_21.kp
 exact T.b_21
 refine zaa ?_ ?_
 exact zab 0
 exact zad
 exact zam 2 nd_27
 refine zak ?_
 refine zdE ?_ ?_ ?_ ?_ ?_
 exact rfl
 exact PassesOwn.never
 refine zb7 ?_
 refine zbj ?_ ?_
 exact zab 2
 exact zah
 exact zam 3 nd_27
 refine zak ?_
 refine zhS ?_ ?_
 refine zbj ?_ ?_
 exact zab 2
 exact zah
 refine zmY ?_ ?_
 exact zab 1
 exact zab 3
 refine zb7 ?_
 refine zeY (k:=5) (g:=t.a_21) (fd:=t.d_21) (ps:=["stock"]) ?_ ?_ ?_ ?_ ?_ ?_ ?_
 exact G_21
 exact zf1
 exact (hr.mono (by decide))
 exact T.m_21
 exact T.F_21.kp
 exact T.b_21
 refine zaa ?_ ?_
 exact zab 0
 exact zad
 refine zak ?_
 refine zaZ ?_
 refine zbF (N:=["thing","borne"]) ?_ ?_ ?_ ?_ ?_ ?_ ?_
 exact rfl
 exact (BOk.of (Xn:=(zae s_27).names) (XN:=["stock","borne","step","thing"]) rfl rfl rfl (by decide +kernel))
 exact (zaQ.name (i:=0) rfl)
 refine zf2 ?_ ?_
 exact T.n_range
 refine zaa ?_ ?_
 refine zbj ?_ ?_
 exact zab 0
 exact zah
 exact zad
 intro _ _ _
 exact zam 0 zsE
 intro _ _ _
 exact zcB
 intro _ _ _
 refine zpN ?_ ?_
 exact zab 1
 exact zab 0
theorem nd_26:(["stock","borne","times"]:List Str).Nodup:=by decide +kernel
theorem zsx:(["offer"]:List Str).Nodup:=by decide +kernel
theorem zsn:(["each","times"]:List Str).Nodup:=by decide +kernel
theorem sc_26:zaq ["stock","borne","times"] ["stock"] (zae s_26):=⟨rfl,rfl,rfl,by decide +kernel,rfl,by decide +kernel,by decide +kernel⟩
theorem ok_26 (T:Tx K mg t):zbw P w K mg base (CXE P w) 7 t.a_26 t.d_26 ["stock"] (spE K 1 F_26):=by
 have G_27:=ok_27 (P:=P) (w:=w) (base:=base) T
 have G_25:=ok_25 (P:=P) (w:=w) (base:=base) T
 have G_1:=ok_1 (P:=P) (w:=w) (base:=base) T
 refine zgy (k:=6) (G:=G_26) (N:=["stock","borne","times"]) (ps:=["stock"]) (st:=s_26) T.F_26 sc_26 fun cdv A outer s H E hr=> ?_
 refine zaf ?_ ?_
 refine zaA 1 ?_ ?_
 exact nd_26
 refine zeY (k:=6) (g:=t.a_27) (fd:=t.d_27) (ps:=["stock"]) ?_ ?_ ?_ ?_ ?_ ?_ ?_
 exact G_27
 exact zf1
 exact (hr.mono (by decide))
 exact T.m_27
 exact T.F_27.kp
 exact T.b_27
 refine zaa ?_ ?_
 exact zab 0
 exact zad
 refine zaf ?_ ?_
 refine zaA 2 ?_ ?_
 exact nd_26
 refine zeY (k:=4) (g:=t.a_25) (fd:=t.d_25) (ps:=["many"]) ?_ ?_ ?_ ?_ ?_ ?_ ?_
 exact G_25
 exact zf1
 exact (hr.mono (by decide))
 exact T.m_25
 exact T.F_25.kp
 exact T.b_25
 refine zaa ?_ ?_
 refine zaR (id:="max") ?_ ?_ ?_ ?_
 exact (zfy rfl)
 exact zkm
 exact T.n_max
 refine zaa ?_ ?_
 refine zbF (N:=["offer"]) ?_ ?_ ?_ ?_ ?_ ?_ ?_
 exact rfl
 exact (BOk.of (Xn:=(zae s_26).names) (XN:=["stock","borne","times"]) rfl rfl rfl (by decide +kernel))
 exact (zaQ.name (i:=0) rfl)
 refine zb7 ?_
 refine zbj ?_ ?_
 exact zab 0
 exact zah
 intro _ _ _
 exact zam 0 zsx
 intro _ _ _
 exact zcB
 intro _ _ _
 refine zaR (id:="len") ?_ ?_ ?_ ?_
 exact za6
 exact zcM
 exact T.n_len
 refine zaa ?_ ?_
 refine zbj ?_ ?_
 exact zab 0
 exact zah
 exact zad
 exact zad
 exact zad
 refine zak ?_
 refine zaZ ?_
 refine zbd (T:="tuple") ?_ ?_ ?_ ?_
 exact zaJ
 exact za8
 exact T.n_tuple
 refine zaa ?_ ?_
 refine zbF (N:=["each","times"]) ?_ ?_ ?_ ?_ ?_ ?_ ?_
 exact rfl
 exact (BOk.of (Xn:=(zae s_26).names) (XN:=["stock","borne","times"]) rfl rfl rfl (by decide +kernel))
 exact (zaQ.name (i:=0) rfl)
 refine zb7 ?_
 exact zab 1
 intro _ _ _
 exact zam 0 zsn
 intro _ _ _
 exact zcB
 intro _ _ _
 refine zf6 (k:=2) (g:=t.a_1) (fd:=t.d_1) (ps:=["top","bottom"]) ?_ ?_ ?_ ?_ ?_ ?_
 exact G_1
 exact (hr.mono (by decide))
 exact T.m_1
 exact T.F_1.kp
 exact T.b_1
 refine zaa ?_ ?_
 refine zbm ?_ ?_ ?_
 exact za5
 refine zbj ?_ ?_
 exact zab 0
 exact zah
 refine zbj ?_ ?_
 exact zab 1
 exact zah
 refine zaa ?_ ?_
 refine zbm ?_ ?_ ?_
 exact za5
 refine zbj ?_ ?_
 exact zab 0
 exact zah
 refine zbj ?_ ?_
 exact zab 1
 exact zah
 exact zad
 exact zad
theorem nd_42:(["way","thing","e"]:List Str).Nodup:=by decide +kernel
theorem sc_42:zaq ["way","thing","e"] ["way","thing"] (zae s_42):=⟨rfl,rfl,rfl,by decide +kernel,rfl,by decide +kernel,by decide +kernel⟩
theorem ok_42 (T:Tx K mg t):zbw P w K mg base CX0 8 t.a_42 t.d_42 ["way","thing"] (zb6 K 2 F_42):=by
 have G_32:=ok_32 (P:=P) (w:=w) (base:=base) T
 have G_25:=ok_25 (P:=P) (w:=w) (base:=base) T
 have G_26:=ok_26 (P:=P) (w:=w) (base:=base) T
 refine zbv (k:=7) (G:=G_42) (N:=["way","thing","e"]) (ps:=["way","thing"]) (st:=s_42) T.F_42 sc_42 fun cdv A outer s H E hr=> ?_
 refine zak ?_
 refine zqA (CE:=t.a_5) (pe:="e") (k:=1) (fdk:=t.d_32) (fk:=t.a_32) 2 ?_ ?_ ?_ ?_ ?_ ?_ ?_ ?_ ?_ ?_
 exact zqH
 exact nd_42
 exact T.g_5
 exact T.x_exc
 exact G_32
 exact T.b_32
 exact T.m_32
 exact T.F_32.kp
 exact (zc1.of (hr.mono (by decide)))
 intro pn xe E' hx
 refine zak ?_
 refine zaZ ?_
 refine zry (addrs:=[t.a_25,t.a_26]) (Fs:=[F_25,F_26]) ?_ ?_ ?_ ?_ ?_
 refine zpo ?_ ?_
 exact T.m_25
 refine zpo ?_ ?_
 exact T.m_26
 exact zqk
 refine Fns.cons (k:=4) (fd:=t.d_25) (ps:=["many"]) ?_ ?_ ?_ ?_ ?_
 exact G_25
 exact (hr.mono (by decide))
 exact T.F_25.kp
 exact T.b_25
 refine Fns.cons (k:=7) (fd:=t.d_26) (ps:=["stock"]) ?_ ?_ ?_ ?_ ?_
 exact G_26
 exact (hr.mono (by decide))
 exact T.F_26.kp
 exact T.b_26
 exact Fns.nil
 exact hx
 exact zab 0
 refine zaa ?_ ?_
 exact zab 1
 exact zad
theorem nd_37:(["top","bottom","one","other"]:List Str).Nodup:=by decide +kernel
theorem sc_37:zaq ["top","bottom","one","other"] ["top","bottom"] (zae s_37):=⟨rfl,rfl,rfl,by decide +kernel,rfl,by decide +kernel,by decide +kernel⟩
theorem ok_37 (T:Tx K mg t):zbw P w K mg base CX0 1 t.a_37 t.d_37 ["top","bottom"] (zb6 K 2 F_37):=by
 refine zbv (k:=0) (G:=G_37) (N:=["top","bottom","one","other"]) (ps:=["top","bottom"]) (st:=s_37) T.F_37 sc_37 fun cdv A outer s H E hr=> ?_
 refine zaf ?_ ?_
 refine zpG 2 3 ?_ ?_ ?_
 exact rfl
 exact nd_37
 refine zaa ?_ ?_
 refine zaR (id:="abs") ?_ ?_ ?_ ?_
 exact zgK
 exact zm1
 exact T.n_abs
 refine zaa ?_ ?_
 exact zab 0
 exact zad
 refine zaa ?_ ?_
 refine zaR (id:="abs") ?_ ?_ ?_ ?_
 exact zgK
 exact zm1
 exact T.n_abs
 refine zaa ?_ ?_
 exact zab 1
 exact zad
 exact zad
 refine zaf ?_ ?_
 refine zfI 3000 ?_ ?_ ?_
 exact PassesOwn.never
 refine zaT ?_ ?_ ?_
 exact zgH
 exact zab 3
 exact zah
 refine zak ?_
 refine zpG 2 3 ?_ ?_ ?_
 exact rfl
 exact nd_37
 refine zaa ?_ ?_
 exact zab 3
 refine zaa ?_ ?_
 refine zbm ?_ ?_ ?_
 exact zdA
 exact zab 2
 exact zab 3
 exact zad
 refine zak ?_
 refine zaZ ?_
 refine zcu ?_
 refine zaa ?_ ?_
 refine zbm ?_ ?_ ?_
 exact zev
 exact zab 0
 exact zab 2
 refine zaa ?_ ?_
 refine zbm ?_ ?_ ?_
 exact zev
 exact zab 1
 exact zab 2
 exact zad
theorem nd_43:(["many","bottom","step"]:List Str).Nodup:=by decide +kernel
theorem zrB:(["step","bottom"]:List Str).Nodup:=by decide +kernel
theorem sc_43:zaq ["many","bottom","step"] ["many"] (zae s_43):=⟨rfl,rfl,rfl,by decide +kernel,rfl,by decide +kernel,by decide +kernel⟩
theorem ok_43 (T:Tx K mg t):zbw P w K mg base CX0 2 t.a_43 t.d_43 ["many"] (zb6 K 1 F_43):=by
 have G_37:=ok_37 (P:=P) (w:=w) (base:=base) T
 refine zbv (k:=1) (G:=G_43) (N:=["many","bottom","step"]) (ps:=["many"]) (st:=s_43) T.F_43 sc_43 fun cdv A outer s H E hr=> ?_
 refine zaf ?_ ?_
 refine zaA 1 ?_ ?_
 exact nd_43
 exact zah
 refine zaf ?_ ?_
 refine zdE ?_ ?_ ?_ ?_ ?_
 exact rfl
 exact PassesOwn.never
 refine zlm ?_ ?_
 exact T.n_range
 refine zaa ?_ ?_
 exact zah
 refine zaa ?_ ?_
 refine zbm ?_ ?_ ?_
 exact zaU
 exact zab 0
 exact zah
 exact zad
 exact zam 2 nd_43
 refine zak ?_
 refine zaA 1 ?_ ?_
 exact nd_43
 refine zbm ?_ ?_ ?_
 exact za5
 exact zab 1
 exact zab 2
 refine zak ?_
 refine zaZ ?_
 refine zar (k:=1) (g:=t.a_37) (fd:=t.d_37) (ps:=["top","bottom"]) ?_ ?_ ?_ ?_ ?_ ?_
 exact G_37
 exact (hr.mono (by decide))
 exact T.m_37
 exact T.F_37.kp
 exact T.b_37
 refine zaa ?_ ?_
 refine zaR (id:="sum") ?_ ?_ ?_ ?_
 exact (zkv rfl)
 exact zm9
 exact T.n_sum
 refine zaa ?_ ?_
 refine zbF (N:=["step","bottom"]) ?_ ?_ ?_ ?_ ?_ ?_ ?_
 exact rfl
 exact (BOk.of (Xn:=(zae s_43).names) (XN:=["many","bottom","step"]) rfl rfl rfl (by decide +kernel))
 exact (zaQ.name (i:=0) rfl)
 refine zlm ?_ ?_
 exact T.n_range
 refine zaa ?_ ?_
 exact zah
 refine zaa ?_ ?_
 refine zbm ?_ ?_ ?_
 exact zaU
 exact zab 0
 exact zah
 exact zad
 intro _ _ _
 exact zam 0 zrB
 intro _ _ _
 exact zcB
 intro _ _ _
 refine zbm ?_ ?_ ?_
 exact zfO
 exact zab 1
 exact zab 0
 exact zad
 refine zaa ?_ ?_
 exact zab 1
 exact zad
theorem sc_31:zaq ["thing"] ["thing"] (zae s_31):=⟨rfl,rfl,rfl,by decide +kernel,rfl,by decide +kernel,by decide +kernel⟩
theorem ok_31 (T:Tx K mg t):zbw P w K mg base CX0 1 t.a_31 t.d_31 ["thing"] (zb6 K 1 F_31):=by
 refine zbv (k:=0) (G:=G_31) (N:=["thing"]) (ps:=["thing"]) (st:=s_31) T.F_31 sc_31 fun cdv A outer s H E hr=> ?_
 refine zak ?_
 refine zaZ ?_
 refine zl6 ?_ ?_
 refine zjd ?_ ?_ ?_ ?_ ?_
 exact zjv
 exact zlx
 exact T.n_isinstance
 exact T.n_int
 exact zab 0
 refine zme ?_
 refine zre ?_
 refine zjd ?_ ?_ ?_ ?_ ?_
 exact zin
 exact zls
 exact T.n_isinstance
 exact T.n_bool
 exact zab 0
theorem sc_38:zaq ["thing"] ["thing"] (zae s_38):=⟨rfl,rfl,rfl,by decide +kernel,rfl,by decide +kernel,by decide +kernel⟩
theorem ok_38 (T:Tx K mg t):zbw P w K mg base CX0 2 t.a_38 t.d_38 ["thing"] (zb6 K 1 F_38):=by
 have G_31:=ok_31 (P:=P) (w:=w) (base:=base) T
 have G_37:=ok_37 (P:=P) (w:=w) (base:=base) T
 refine zbv (k:=1) (G:=G_38) (N:=["thing"]) (ps:=["thing"]) (st:=s_38) T.F_38 sc_38 fun cdv A outer s H E hr=> ?_
 refine zaf ?_ ?_
 refine zhQ ?_ ?_ ?_
 refine zc4 ?_
 refine zeK ?_ ?_
 refine zdP ?_
 refine zdo ?_
 refine zjd ?_ ?_ ?_ ?_ ?_
 exact zg9
 exact za8
 exact T.n_isinstance
 exact T.n_tuple
 exact zab 0
 refine zeK ?_ ?_
 refine zaT ?_ ?_ ?_
 exact (zdB (zfw hr))
 refine zaR (id:="len") ?_ ?_ ?_ ?_
 exact za6
 exact zcM
 exact T.n_len
 refine zaa ?_ ?_
 exact zab 0
 exact zad
 exact zah
 refine zeK ?_ ?_
 refine zdP ?_
 refine zdo ?_
 refine zar (k:=1) (g:=t.a_31) (fd:=t.d_31) (ps:=["thing"]) ?_ ?_ ?_ ?_ ?_ ?_
 exact G_31
 exact (hr.mono (by decide))
 exact T.m_31
 exact T.F_31.kp
 exact T.b_31
 refine zaa ?_ ?_
 refine zbj ?_ ?_
 exact zab 0
 exact zah
 exact zad
 refine zeZ ?_
 refine zdP ?_
 refine zdo ?_
 refine zar (k:=1) (g:=t.a_31) (fd:=t.d_31) (ps:=["thing"]) ?_ ?_ ?_ ?_ ?_ ?_
 exact G_31
 exact (hr.mono (by decide))
 exact T.m_31
 exact T.F_31.kp
 exact T.b_31
 refine zaa ?_ ?_
 refine zbj ?_ ?_
 exact zab 0
 exact zah
 exact zad
 refine zak ?_
 refine zaZ ?_
 exact zpk
 exact zbZ
 refine zak ?_
 refine zaZ ?_
 refine zl6 ?_ ?_
 refine zjf ?_ ?_ ?_
 exact zgH
 refine zbj ?_ ?_
 exact zab 0
 exact zah
 exact zah
 refine zme ?_
 refine zjf ?_ ?_ ?_
 exact (ze5 (zfw hr))
 refine zar (k:=1) (g:=t.a_37) (fd:=t.d_37) (ps:=["top","bottom"]) ?_ ?_ ?_ ?_ ?_ ?_
 exact G_37
 exact (hr.mono (by decide))
 exact T.m_37
 exact T.F_37.kp
 exact T.b_37
 refine zaa ?_ ?_
 refine zbj ?_ ?_
 exact zab 0
 exact zah
 refine zaa ?_ ?_
 refine zbj ?_ ?_
 exact zab 0
 exact zah
 exact zad
 exact zab 0
theorem nd_33:(["box","many","way","bits","first","step"]:List Str).Nodup:=by decide +kernel
theorem zs3:(["thing","bits"]:List Str).Nodup:=by decide +kernel
theorem zsU:(["k","first","step","many"]:List Str).Nodup:=by decide +kernel
theorem sc_33:zaq ["box","many","way","bits","first","step"] ["box","many"] (zae s_33):=⟨rfl,rfl,rfl,by decide +kernel,rfl,by decide +kernel,by decide +kernel⟩
theorem ok_33 (T:Tx K mg t):zbw P w K mg base CX0 2 t.a_33 t.d_33 ["box","many"] (zb6 K 2 F_33):=by
 have G_30:=ok_30 (P:=P) (w:=w) (base:=base) T
 refine zbv (k:=1) (G:=G_33) (N:=["box","many","way","bits","first","step"]) (ps:=["box","many"]) (st:=s_33) T.F_33 sc_33 fun cdv A outer s H E hr=> ?_
 refine zaf ?_ ?_
 refine zaA 2 ?_ ?_
 exact nd_33
 refine zar (k:=1) (g:=t.a_30) (fd:=t.d_30) (ps:=["box","many"]) ?_ ?_ ?_ ?_ ?_ ?_
 exact G_30
 exact (hr.mono (by decide))
 exact T.m_30
 exact T.F_30.kp
 exact T.b_30
 refine zaa ?_ ?_
 exact zab 0
 refine zaa ?_ ?_
 exact zah
 exact zad
 refine zaf ?_ ?_
 refine zhQ ?_ ?_ ?_
 refine zaT ?_ ?_ ?_
 exact (ze5 (zfw hr))
 exact zab 2
 exact zah
 refine zaf ?_ ?_
 refine zaA 3 ?_ ?_
 exact nd_33
 refine zbm ?_ ?_ ?_
 exact zaU
 exact zah
 refine zar (k:=1) (g:=t.a_30) (fd:=t.d_30) (ps:=["box","many"]) ?_ ?_ ?_ ?_ ?_ ?_
 exact G_30
 exact (hr.mono (by decide))
 exact T.m_30
 exact T.F_30.kp
 exact T.b_30
 refine zaa ?_ ?_
 exact zab 0
 refine zaa ?_ ?_
 refine zbm ?_ ?_ ?_
 exact zlt
 refine zbm ?_ ?_ ?_
 exact znF
 exact zah
 exact zab 1
 exact zah
 exact zad
 refine zak ?_
 refine zaZ ?_
 refine zbd (T:="tuple") ?_ ?_ ?_ ?_
 exact zaJ
 exact za8
 exact T.n_tuple
 refine zaa ?_ ?_
 refine zbF (N:=["thing","bits"]) ?_ ?_ ?_ ?_ ?_ ?_ ?_
 exact rfl
 exact (BOk.of (Xn:=(zae s_33).names) (XN:=["box","many","way","bits","first","step"]) rfl rfl rfl (by decide +kernel))
 exact (zaQ.name (i:=0) rfl)
 refine zf2 ?_ ?_
 exact T.n_range
 refine zaa ?_ ?_
 exact zab 1
 exact zad
 intro _ _ _
 exact zam 0 zs3
 intro _ _ _
 refine zeX ?_
 refine zaT ?_ ?_ ?_
 exact (ze5 (zfw hr))
 refine zbm ?_ ?_ ?_
 exact zoC
 refine zbm ?_ ?_ ?_
 exact zo1
 exact zab 1
 exact zab 0
 exact zah
 exact zah
 intro _ _ _
 exact zab 0
 exact zad
 exact zbZ
 refine zaf ?_ ?_
 refine zhS ?_ ?_
 refine zcu ?_
 refine zaa ?_ ?_
 refine zar (k:=1) (g:=t.a_30) (fd:=t.d_30) (ps:=["box","many"]) ?_ ?_ ?_ ?_ ?_ ?_
 exact G_30
 exact (hr.mono (by decide))
 exact T.m_30
 exact T.F_30.kp
 exact T.b_30
 refine zaa ?_ ?_
 exact zab 0
 refine zaa ?_ ?_
 exact zab 1
 exact zad
 refine zaa ?_ ?_
 refine zbj ?_ ?_
 refine zfl ?_
 refine zaa ?_ ?_
 exact zah
 refine zaa ?_ ?_
 refine zbm ?_ ?_ ?_
 exact zaU
 exact zah
 refine zar (k:=1) (g:=t.a_30) (fd:=t.d_30) (ps:=["box","many"]) ?_ ?_ ?_ ?_ ?_ ?_
 exact G_30
 exact (hr.mono (by decide))
 exact T.m_30
 exact T.F_30.kp
 exact T.b_30
 refine zaa ?_ ?_
 exact zab 0
 refine zaa ?_ ?_
 exact zah
 exact zad
 exact zad
 refine zbm ?_ ?_ ?_
 exact zlt
 exact zab 2
 exact zah
 exact zad
 refine zed ?_ ?_
 exact rfl
 refine zaS ?_ ?_
 exact zam 4 nd_33
 refine zaS ?_ ?_
 exact zam 5 nd_33
 exact zcT
 refine zak ?_
 refine zaZ ?_
 refine zbd (T:="tuple") ?_ ?_ ?_ ?_
 exact zaJ
 exact za8
 exact T.n_tuple
 refine zaa ?_ ?_
 refine zgk ?_ ?_ ?_ ?_
 exact rfl
 exact T.n_sorted
 exact T.n_set
 refine zbF (N:=["k","first","step","many"]) ?_ ?_ ?_ ?_ ?_ ?_ ?_
 exact rfl
 exact (BOk.of (Xn:=(zae s_33).names) (XN:=["box","many","way","bits","first","step"]) rfl rfl rfl (by decide +kernel))
 exact (zaQ.name (i:=0) rfl)
 refine zf2 ?_ ?_
 exact T.n_range
 refine zaa ?_ ?_
 refine zbm ?_ ?_ ?_
 exact zaU
 exact zah
 refine zar (k:=1) (g:=t.a_30) (fd:=t.d_30) (ps:=["box","many"]) ?_ ?_ ?_ ?_ ?_ ?_
 exact G_30
 exact (hr.mono (by decide))
 exact T.m_30
 exact T.F_30.kp
 exact T.b_30
 refine zaa ?_ ?_
 exact zab 0
 refine zaa ?_ ?_
 exact zah
 exact zad
 exact zad
 intro _ _ _
 exact zam 0 zsU
 intro _ _ _
 exact zcB
 intro _ _ _
 refine zbm ?_ ?_ ?_
 exact zdA
 refine zbm ?_ ?_ ?_
 exact zaU
 exact zab 1
 refine zbm ?_ ?_ ?_
 exact za5
 exact zab 2
 exact zab 0
 exact zab 3
 exact zad
theorem nd_34:(["box","most","lots","many","far","rows","thing","row"]:List Str).Nodup:=by decide +kernel
theorem zsh:(["k","box","many","far"]:List Str).Nodup:=by decide +kernel
theorem zrw:(["row","thing"]:List Str).Nodup:=by decide +kernel
theorem zqD:(["row"]:List Str).Nodup:=by decide +kernel
theorem sc_34:zaq ["box","most","lots","many","far","rows","thing","row"] ["box","most","lots"] (zae s_34):=⟨rfl,rfl,rfl,by decide +kernel,rfl,by decide +kernel,by decide +kernel⟩
theorem ok_34 (T:Tx K mg t):zbw P w K mg base CX0 3 t.a_34 t.d_34 ["box","most","lots"] (zb6 K 3 F_34):=by
 have G_30:=ok_30 (P:=P) (w:=w) (base:=base) T
 have G_33:=ok_33 (P:=P) (w:=w) (base:=base) T
 refine zbv (k:=2) (G:=G_34) (N:=["box","most","lots","many","far","rows","thing","row"]) (ps:=["box","most","lots"]) (st:=s_34) T.F_34 sc_34 fun cdv A outer s H E hr=> ?_
 refine zaf ?_ ?_
 refine zaA 3 ?_ ?_
 exact nd_34
 refine zbm ?_ ?_ ?_
 exact zaU
 exact zah
 refine zar (k:=1) (g:=t.a_30) (fd:=t.d_30) (ps:=["box","many"]) ?_ ?_ ?_ ?_ ?_ ?_
 exact G_30
 exact (hr.mono (by decide))
 exact T.m_30
 exact T.F_30.kp
 exact T.b_30
 refine zaa ?_ ?_
 exact zab 0
 refine zaa ?_ ?_
 exact zab 1
 exact zad
 refine zaf ?_ ?_
 refine zaA 4 ?_ ?_
 exact nd_34
 refine zbj ?_ ?_
 refine zfl ?_
 refine zaa ?_ ?_
 exact zah
 refine zaa ?_ ?_
 exact zah
 refine zaa ?_ ?_
 exact zah
 refine zaa ?_ ?_
 refine zbm ?_ ?_ ?_
 exact zkN
 exact zah
 exact zah
 exact zad
 refine zar (k:=1) (g:=t.a_30) (fd:=t.d_30) (ps:=["box","many"]) ?_ ?_ ?_ ?_ ?_ ?_
 exact G_30
 exact (hr.mono (by decide))
 exact T.m_30
 exact T.F_30.kp
 exact T.b_30
 refine zaa ?_ ?_
 exact zab 0
 refine zaa ?_ ?_
 exact zah
 exact zad
 refine zaf ?_ ?_
 refine zg3 5 (N:=["k","box","many","far"]) ?_ ?_ ?_ ?_ ?_ ?_ ?_ ?_
 exact rfl
 exact nd_34
 exact (BOk.of (Xn:=(zae s_34).names) (XN:=["box","most","lots","many","far","rows","thing","row"]) rfl rfl rfl (by decide +kernel))
 exact (zaQ.name (i:=0) rfl)
 refine zf2 ?_ ?_
 exact T.n_range
 refine zaa ?_ ?_
 refine zbm ?_ ?_ ?_
 exact zaU
 exact zah
 refine zar (k:=1) (g:=t.a_30) (fd:=t.d_30) (ps:=["box","many"]) ?_ ?_ ?_ ?_ ?_ ?_
 exact G_30
 exact (hr.mono (by decide))
 exact T.m_30
 exact T.F_30.kp
 exact T.b_30
 refine zaa ?_ ?_
 exact zab 0
 refine zaa ?_ ?_
 exact zab 2
 exact zad
 exact zad
 intro _ _ _
 exact zam 0 zsh
 intro _ _ _
 exact zcB
 intro _ _ _
 refine zd9 ?_
 refine zaa ?_ ?_
 refine zar (k:=2) (g:=t.a_33) (fd:=t.d_33) (ps:=["box","many"]) ?_ ?_ ?_ ?_ ?_ ?_
 exact G_33
 exact (hr.mono (by decide))
 exact T.m_33
 exact T.F_33.kp
 exact T.b_33
 refine zaa ?_ ?_
 exact zab 1
 refine zaa ?_ ?_
 exact zab 2
 exact zad
 refine zaa ?_ ?_
 refine zbm ?_ ?_ ?_
 exact zaU
 exact zah
 refine zar (k:=1) (g:=t.a_30) (fd:=t.d_30) (ps:=["box","many"]) ?_ ?_ ?_ ?_ ?_ ?_
 exact G_30
 exact (hr.mono (by decide))
 exact T.m_30
 exact T.F_30.kp
 exact T.b_30
 refine zaa ?_ ?_
 exact zab 1
 refine zaa ?_ ?_
 exact zab 3
 exact zad
 exact zad
 refine zaf ?_ ?_
 refine zdE ?_ ?_ ?_ ?_ ?_
 exact rfl
 exact PassesOwn.never
 refine zf2 ?_ ?_
 exact T.n_range
 refine zaa ?_ ?_
 exact zab 3
 exact zad
 exact zam 6 nd_34
 refine zak ?_
 refine zhQ ?_ ?_ ?_
 refine zaT ?_ ?_ ?_
 exact (zpS (zfw hr))
 refine zbF (N:=["row","thing"]) ?_ ?_ ?_ ?_ ?_ ?_ ?_
 exact rfl
 exact (BOk.of (Xn:=(zae s_34).names) (XN:=["box","most","lots","many","far","rows","thing","row"]) rfl rfl rfl (by decide +kernel))
 exact (zaQ.name (i:=0) rfl)
 refine zb7 ?_
 exact zab 5
 intro _ _ _
 exact zam 0 zrw
 intro _ _ _
 refine zeX ?_
 refine zaT ?_ ?_ ?_
 exact (zpW (zfw hr))
 exact zab 1
 refine zbj ?_ ?_
 exact zab 0
 exact zah
 intro _ _ _
 exact zab 0
 refine zfl ?_
 exact zad
 refine zaf ?_ ?_
 refine zaA 7 ?_ ?_
 exact nd_34
 refine zbj ?_ ?_
 exact zab 5
 refine zar (k:=1) (g:=t.a_30) (fd:=t.d_30) (ps:=["box","many"]) ?_ ?_ ?_ ?_ ?_ ?_
 exact G_30
 exact (hr.mono (by decide))
 exact T.m_30
 exact T.F_30.kp
 exact T.b_30
 refine zaa ?_ ?_
 exact zab 0
 refine zaa ?_ ?_
 refine zaR (id:="len") ?_ ?_ ?_ ?_
 exact za6
 exact zcM
 exact T.n_len
 refine zaa ?_ ?_
 exact zab 5
 exact zad
 exact zad
 refine zak ?_
 refine zhS ?_ ?_
 refine zbd (T:="tuple") ?_ ?_ ?_ ?_
 exact zaJ
 exact za8
 exact T.n_tuple
 refine zaa ?_ ?_
 refine zaR (id:="sorted") ?_ ?_ ?_ ?_
 exact (zeb rfl)
 exact zgU
 exact T.n_sorted
 refine zaa ?_ ?_
 refine zbm ?_ ?_ ?_
 exact zaU
 refine zbj ?_ ?_
 exact zab 7
 exact zah
 refine zcu ?_
 refine zaa ?_ ?_
 exact zab 6
 exact zad
 exact zad
 exact zad
 refine zm8 ?_ ?_
 exact zab 7
 exact zah
 exact zbZ
 refine zak ?_
 refine zaZ ?_
 refine zcu ?_
 refine zaa ?_ ?_
 exact zab 3
 refine zaa ?_ ?_
 refine zbd (T:="tuple") ?_ ?_ ?_ ?_
 exact zaJ
 exact za8
 exact T.n_tuple
 refine zaa ?_ ?_
 refine zbF (N:=["row"]) ?_ ?_ ?_ ?_ ?_ ?_ ?_
 exact rfl
 exact (BOk.of (Xn:=(zae s_34).names) (XN:=["box","most","lots","many","far","rows","thing","row"]) rfl rfl rfl (by decide +kernel))
 exact (zaQ.name (i:=0) rfl)
 refine zb7 ?_
 exact zab 5
 intro _ _ _
 exact zam 0 zqD
 intro _ _ _
 exact zcB
 intro _ _ _
 refine zcu ?_
 refine zaa ?_ ?_
 refine zbj ?_ ?_
 exact zab 0
 exact zah
 refine zaa ?_ ?_
 refine zbj ?_ ?_
 exact zab 0
 exact zah
 exact zad
 exact zad
 exact zad
theorem nd_36:(["stock","lot","found","offer"]:List Str).Nodup:=by decide +kernel
theorem zpM:(["thing","found"]:List Str).Nodup:=by decide +kernel
theorem sc_36:zaq ["stock","lot","found","offer"] ["stock","lot"] (zae s_36):=⟨rfl,rfl,rfl,by decide +kernel,rfl,by decide +kernel,by decide +kernel⟩
theorem ok_36 (T:Tx K mg t):zbw P w K mg base CX0 1 t.a_36 t.d_36 ["stock","lot"] (zb6 K 2 F_36):=by
 refine zbv (k:=0) (G:=G_36) (N:=["stock","lot","found","offer"]) (ps:=["stock","lot"]) (st:=s_36) T.F_36 sc_36 fun cdv A outer s H E hr=> ?_
 refine zaf ?_ ?_
 refine zaA 2 ?_ ?_
 exact nd_36
 refine zfl ?_
 exact zad
 refine zaf ?_ ?_
 refine zdE ?_ ?_ ?_ ?_ ?_
 exact rfl
 exact PassesOwn.never
 refine zb7 ?_
 exact zab 1
 exact zam 3 nd_36
 refine zak ?_
 refine zaA 2 ?_ ?_
 exact nd_36
 refine zbm ?_ ?_ ?_
 exact zaU
 exact zab 2
 refine zbF (N:=["thing","found"]) ?_ ?_ ?_ ?_ ?_ ?_ ?_
 exact rfl
 exact (BOk.of (Xn:=(zae s_36).names) (XN:=["stock","lot","found","offer"]) rfl rfl rfl (by decide +kernel))
 exact (zaQ.name (i:=0) rfl)
 refine zb7 ?_
 refine zbj ?_ ?_
 refine zbj ?_ ?_
 refine zbj ?_ ?_
 exact zab 0
 exact zah
 exact zab 3
 exact zah
 intro _ _ _
 exact zam 0 zpM
 intro _ _ _
 refine zeX ?_
 refine zaT ?_ ?_ ?_
 exact (zgB (zfw hr))
 exact zab 0
 exact zab 1
 intro _ _ _
 exact zab 0
 refine zak ?_
 refine zaZ ?_
 refine zbd (T:="tuple") ?_ ?_ ?_ ?_
 exact zaJ
 exact za8
 exact T.n_tuple
 refine zaa ?_ ?_
 refine zaR (id:="sorted") ?_ ?_ ?_ ?_
 exact (zeb rfl)
 exact zgU
 exact T.n_sorted
 refine zaa ?_ ?_
 exact zab 2
 exact zad
 exact zad
theorem nd_39:(["stock","offer","lot","had"]:List Str).Nodup:=by decide +kernel
theorem zqC:(["thing","had"]:List Str).Nodup:=by decide +kernel
theorem sc_39:zaq ["stock","offer","lot","had"] ["stock","offer","lot"] (zae s_39):=⟨rfl,rfl,rfl,by decide +kernel,rfl,by decide +kernel,by decide +kernel⟩
theorem ok_39 (T:Tx K mg t):zbw P w K mg base CX0 2 t.a_39 t.d_39 ["stock","offer","lot"] (zb6 K 3 F_39):=by
 have G_36:=ok_36 (P:=P) (w:=w) (base:=base) T
 refine zbv (k:=1) (G:=G_39) (N:=["stock","offer","lot","had"]) (ps:=["stock","offer","lot"]) (st:=s_39) T.F_39 sc_39 fun cdv A outer s H E hr=> ?_
 refine zaf ?_ ?_
 refine zaA 3 ?_ ?_
 exact nd_39
 refine zar (k:=1) (g:=t.a_36) (fd:=t.d_36) (ps:=["stock","lot"]) ?_ ?_ ?_ ?_ ?_ ?_
 exact G_36
 exact (hr.mono (by decide))
 exact T.m_36
 exact T.F_36.kp
 exact T.b_36
 refine zaa ?_ ?_
 exact zab 0
 refine zaa ?_ ?_
 exact zab 2
 exact zad
 refine zak ?_
 refine zaZ ?_
 refine zbd (T:="tuple") ?_ ?_ ?_ ?_
 exact zaJ
 exact za8
 exact T.n_tuple
 refine zaa ?_ ?_
 refine zbF (N:=["thing","had"]) ?_ ?_ ?_ ?_ ?_ ?_ ?_
 exact rfl
 exact (BOk.of (Xn:=(zae s_39).names) (XN:=["stock","offer","lot","had"]) rfl rfl rfl (by decide +kernel))
 exact (zaQ.name (i:=0) rfl)
 refine zb7 ?_
 refine zbj ?_ ?_
 refine zbj ?_ ?_
 refine zbj ?_ ?_
 exact zab 0
 exact zah
 exact zab 1
 exact zah
 intro _ _ _
 exact zam 0 zqC
 intro _ _ _
 refine zeX ?_
 refine zaT ?_ ?_ ?_
 exact (zgB (zfw hr))
 exact zab 0
 exact zab 1
 intro _ _ _
 exact zab 0
 exact zad
theorem nd_40:(["stock","lot","rows","offer","new","found","price","many"]:List Str).Nodup:=by decide +kernel
theorem sc_40:zaq ["stock","lot","rows","offer","new","found","price","many"] ["stock","lot"] (zae s_40):=⟨rfl,rfl,rfl,by decide +kernel,rfl,by decide +kernel,by decide +kernel⟩
theorem ok_40 (T:Tx K mg t):zbw P w K mg base CX0 3 t.a_40 t.d_40 ["stock","lot"] (zb6 K 2 F_40):=by
 have G_39:=ok_39 (P:=P) (w:=w) (base:=base) T
 refine zbv (k:=2) (G:=G_40) (N:=["stock","lot","rows","offer","new","found","price","many"]) (ps:=["stock","lot"]) (st:=s_40) T.F_40 sc_40 fun cdv A outer s H E hr=> ?_
 refine zaf ?_ ?_
 refine zaA 2 ?_ ?_
 exact nd_40
 refine zd9 ?_
 exact zad
 refine zaf ?_ ?_
 refine zdE ?_ ?_ ?_ ?_ ?_
 exact rfl
 exact PassesOwn.never
 refine zf2 ?_ ?_
 exact T.n_range
 refine zaa ?_ ?_
 refine zaR (id:="len") ?_ ?_ ?_ ?_
 exact za6
 exact zcM
 exact T.n_len
 refine zaa ?_ ?_
 refine zbj ?_ ?_
 exact zab 0
 exact zah
 exact zad
 exact zad
 exact zam 3 nd_40
 refine zaf ?_ ?_
 refine zaA 4 ?_ ?_
 exact nd_40
 refine zar (k:=2) (g:=t.a_39) (fd:=t.d_39) (ps:=["stock","offer","lot"]) ?_ ?_ ?_ ?_ ?_ ?_
 exact G_39
 exact (hr.mono (by decide))
 exact T.m_39
 exact T.F_39.kp
 exact T.b_39
 refine zaa ?_ ?_
 exact zab 0
 refine zaa ?_ ?_
 exact zab 3
 refine zaa ?_ ?_
 exact zab 1
 exact zad
 refine zak ?_
 refine zhQ ?_ ?_ ?_
 refine zaT ?_ ?_ ?_
 exact (zdB (zfw hr))
 exact zab 4
 refine zcu ?_
 exact zad
 refine zak ?_
 refine zfs ?_
 refine zfU ?_ ?_
 exact zab 2
 refine zcu ?_
 refine zaa ?_ ?_
 refine zbj ?_ ?_
 refine zbj ?_ ?_
 refine zbj ?_ ?_
 exact zab 0
 exact zah
 exact zab 3
 exact zah
 refine zaa ?_ ?_
 refine zaR (id:="len") ?_ ?_ ?_ ?_
 exact za6
 exact zcM
 exact T.n_len
 refine zaa ?_ ?_
 exact zab 4
 exact zad
 refine zaa ?_ ?_
 exact zab 3
 exact zad
 exact zbZ
 refine zaf ?_ ?_
 refine zaA 5 ?_ ?_
 exact nd_40
 exact zeH
 refine zaf ?_ ?_
 refine zdE ?_ ?_ ?_ ?_ ?_
 exact rfl
 exact PassesOwn.never
 refine zb7 ?_
 refine znW ?_
 exact zab 2
 refine zed ?_ ?_
 exact rfl
 refine zaS ?_ ?_
 exact zam 6 nd_40
 refine zaS ?_ ?_
 exact zam 7 nd_40
 refine zaS ?_ ?_
 exact zam 3 nd_40
 exact zcT
 refine zak ?_
 refine zhQ ?_ ?_ ?_
 refine zc4 ?_
 refine zeK ?_ ?_
 refine zaT ?_ ?_ ?_
 exact zim
 exact zab 5
 exact zeH
 refine zeZ ?_
 refine zaT ?_ ?_ ?_
 exact zgE
 refine zbm ?_ ?_ ?_
 exact za5
 exact zab 6
 refine zbj ?_ ?_
 exact zab 5
 exact zah
 refine zbm ?_ ?_ ?_
 exact za5
 refine zbj ?_ ?_
 exact zab 5
 exact zah
 exact zab 7
 refine zak ?_
 refine zaA 5 ?_ ?_
 exact nd_40
 refine zcu ?_
 refine zaa ?_ ?_
 exact zab 6
 refine zaa ?_ ?_
 exact zab 7
 refine zaa ?_ ?_
 exact zab 3
 exact zad
 exact zbZ
 refine zak ?_
 refine zaZ ?_
 refine zpZ ?_ ?_ ?_
 refine zaT ?_ ?_ ?_
 exact zim
 exact zab 5
 exact zeH
 exact zeH
 refine zbj ?_ ?_
 exact zab 5
 exact zah
theorem nd_41:(["stock","found","lot","offer","new"]:List Str).Nodup:=by decide +kernel
theorem sc_41:zaq ["stock","found","lot","offer","new"] ["stock"] (zae s_41):=⟨rfl,rfl,rfl,by decide +kernel,rfl,by decide +kernel,by decide +kernel⟩
theorem ok_41 (T:Tx K mg t):zbw P w K mg base CX0 4 t.a_41 t.d_41 ["stock"] (zb6 K 1 F_41):=by
 have G_40:=ok_40 (P:=P) (w:=w) (base:=base) T
 have G_39:=ok_39 (P:=P) (w:=w) (base:=base) T
 have G_37:=ok_37 (P:=P) (w:=w) (base:=base) T
 refine zbv (k:=3) (G:=G_41) (N:=["stock","found","lot","offer","new"]) (ps:=["stock"]) (st:=s_41) T.F_41 sc_41 fun cdv A outer s H E hr=> ?_
 refine zaf ?_ ?_
 refine zaA 1 ?_ ?_
 exact nd_41
 refine zd9 ?_
 exact zad
 refine zaf ?_ ?_
 refine zaA 2 ?_ ?_
 exact nd_41
 refine zcu ?_
 exact zad
 refine zaf ?_ ?_
 refine zfI 1000 ?_ ?_ ?_
 exact PassesOwn.never
 refine zaT ?_ ?_ ?_
 exact zjF
 refine zar (k:=3) (g:=t.a_40) (fd:=t.d_40) (ps:=["stock","lot"]) ?_ ?_ ?_ ?_ ?_ ?_
 exact G_40
 exact (hr.mono (by decide))
 exact T.m_40
 exact T.F_40.kp
 exact T.b_40
 refine zaa ?_ ?_
 exact zab 0
 refine zaa ?_ ?_
 exact zab 2
 exact zad
 exact zeH
 refine zaf ?_ ?_
 refine zaA 3 ?_ ?_
 exact nd_41
 refine zar (k:=3) (g:=t.a_40) (fd:=t.d_40) (ps:=["stock","lot"]) ?_ ?_ ?_ ?_ ?_ ?_
 exact G_40
 exact (hr.mono (by decide))
 exact T.m_40
 exact T.F_40.kp
 exact T.b_40
 refine zaa ?_ ?_
 exact zab 0
 refine zaa ?_ ?_
 exact zab 2
 exact zad
 refine zaf ?_ ?_
 refine zaA 4 ?_ ?_
 exact nd_41
 refine zar (k:=2) (g:=t.a_39) (fd:=t.d_39) (ps:=["stock","offer","lot"]) ?_ ?_ ?_ ?_ ?_ ?_
 exact G_39
 exact (hr.mono (by decide))
 exact T.m_39
 exact T.F_39.kp
 exact T.b_39
 refine zaa ?_ ?_
 exact zab 0
 refine zaa ?_ ?_
 exact zab 3
 refine zaa ?_ ?_
 exact zab 2
 exact zad
 refine zaf ?_ ?_
 refine zfs ?_
 refine zfU ?_ ?_
 exact zab 1
 refine zcu ?_
 refine zaa ?_ ?_
 exact zab 3
 refine zaa ?_ ?_
 exact zab 4
 refine zaa ?_ ?_
 refine zar (k:=1) (g:=t.a_37) (fd:=t.d_37) (ps:=["top","bottom"]) ?_ ?_ ?_ ?_ ?_ ?_
 exact G_37
 exact (hr.mono (by decide))
 exact T.m_37
 exact T.F_37.kp
 exact T.b_37
 refine zaa ?_ ?_
 refine zbj ?_ ?_
 refine zbj ?_ ?_
 refine zbj ?_ ?_
 exact zab 0
 exact zah
 exact zab 3
 exact zah
 refine zaa ?_ ?_
 refine zaR (id:="len") ?_ ?_ ?_ ?_
 exact za6
 exact zcM
 exact T.n_len
 refine zaa ?_ ?_
 exact zab 4
 exact zad
 exact zad
 exact zad
 refine zak ?_
 refine zaA 2 ?_ ?_
 exact nd_41
 refine zbm ?_ ?_ ?_
 exact zaU
 exact zab 2
 refine zcu ?_
 refine zaa ?_ ?_
 exact zab 3
 exact zad
 refine zak ?_
 refine zaZ ?_
 refine znW ?_
 exact zab 1
theorem nd_44:(["stock","top","bottom","bears","offer","things","each","thing"]:List Str).Nodup:=by decide +kernel
theorem zmK:(["things","price"]:List Str).Nodup:=by decide +kernel
theorem zq5:(["thing","bears"]:List Str).Nodup:=by decide +kernel
theorem sc_44:zaq ["stock","top","bottom","bears","offer","things","each","thing"] ["stock"] (zae s_44):=⟨rfl,rfl,rfl,by decide +kernel,rfl,by decide +kernel,by decide +kernel⟩
theorem ok_44 (T:Tx K mg t):zbw P w K mg base CX0 5 t.a_44 t.d_44 ["stock"] (zb6 K 1 F_44):=by
 have G_43:=ok_43 (P:=P) (w:=w) (base:=base) T
 have G_41:=ok_41 (P:=P) (w:=w) (base:=base) T
 have G_37:=ok_37 (P:=P) (w:=w) (base:=base) T
 refine zbv (k:=4) (G:=G_44) (N:=["stock","top","bottom","bears","offer","things","each","thing"]) (ps:=["stock"]) (st:=s_44) T.F_44 sc_44 fun cdv A outer s H E hr=> ?_
 refine zaf ?_ ?_
 refine zhS ?_ ?_
 refine zar (k:=2) (g:=t.a_43) (fd:=t.d_43) (ps:=["many"]) ?_ ?_ ?_ ?_ ?_ ?_
 exact G_43
 exact (hr.mono (by decide))
 exact T.m_43
 exact T.F_43.kp
 exact T.b_43
 refine zaa ?_ ?_
 refine zaR (id:="max") ?_ ?_ ?_ ?_
 exact (zfy rfl)
 exact zkm
 exact T.n_max
 refine zaa ?_ ?_
 refine zbF (N:=["things","price"]) ?_ ?_ ?_ ?_ ?_ ?_ ?_
 exact rfl
 exact (BOk.of (Xn:=(zae s_44).names) (XN:=["stock","top","bottom","bears","offer","things","each","thing"]) rfl rfl rfl (by decide +kernel))
 exact (zaQ.tup (zbL.cons (i:=0) rfl (zbL.cons (i:=1) rfl zbL.nil)))
 refine zb7 ?_
 refine zbj ?_ ?_
 exact zab 0
 exact zah
 intro _ _ _
 refine zed ?_ ?_
 exact rfl
 refine zaS ?_ ?_
 exact zam 0 zmK
 refine zaS ?_ ?_
 exact zam 1 zmK
 exact zcT
 intro _ _ _
 exact zcB
 intro _ _ _
 refine zaR (id:="len") ?_ ?_ ?_ ?_
 exact za6
 exact zcM
 exact T.n_len
 refine zaa ?_ ?_
 exact zab 0
 exact zad
 exact zad
 exact zad
 refine zed ?_ ?_
 exact rfl
 refine zaS ?_ ?_
 exact zam 1 nd_44
 refine zaS ?_ ?_
 exact zam 2 nd_44
 exact zcT
 refine zaf ?_ ?_
 refine zaA 3 ?_ ?_
 exact nd_44
 exact zpA
 refine zaf ?_ ?_
 refine zdE ?_ ?_ ?_ ?_ ?_
 exact rfl
 exact PassesOwn.never
 refine zb7 ?_
 refine zar (k:=4) (g:=t.a_41) (fd:=t.d_41) (ps:=["stock"]) ?_ ?_ ?_ ?_ ?_ ?_
 exact G_41
 exact (hr.mono (by decide))
 exact T.m_41
 exact T.F_41.kp
 exact T.b_41
 refine zaa ?_ ?_
 exact zab 0
 exact zad
 refine zed ?_ ?_
 exact rfl
 refine zaS ?_ ?_
 exact zam 4 nd_44
 refine zaS ?_ ?_
 exact zam 5 nd_44
 refine zaS ?_ ?_
 exact zam 6 nd_44
 exact zcT
 refine zak ?_
 refine zdE ?_ ?_ ?_ ?_ ?_
 exact rfl
 exact PassesOwn.never
 refine zb7 ?_
 exact zab 5
 exact zam 7 nd_44
 refine zak ?_
 refine zhS ?_ ?_
 refine zar (k:=1) (g:=t.a_37) (fd:=t.d_37) (ps:=["top","bottom"]) ?_ ?_ ?_ ?_ ?_ ?_
 exact G_37
 exact (hr.mono (by decide))
 exact T.m_37
 exact T.F_37.kp
 exact T.b_37
 refine zaa ?_ ?_
 refine zbm ?_ ?_ ?_
 exact za5
 refine zbj ?_ ?_
 exact zab 6
 exact zah
 exact zab 2
 refine zaa ?_ ?_
 refine zbm ?_ ?_ ?_
 exact za5
 refine zbj ?_ ?_
 exact zab 6
 exact zah
 exact zab 1
 exact zad
 refine zmY ?_ ?_
 exact zab 3
 exact zab 7
 refine zak ?_
 refine zaZ ?_
 refine zbd (T:="tuple") ?_ ?_ ?_ ?_
 exact zaJ
 exact za8
 exact T.n_tuple
 refine zaa ?_ ?_
 refine zbF (N:=["thing","bears"]) ?_ ?_ ?_ ?_ ?_ ?_ ?_
 exact rfl
 exact (BOk.of (Xn:=(zae s_44).names) (XN:=["stock","top","bottom","bears","offer","things","each","thing"]) rfl rfl rfl (by decide +kernel))
 exact (zaQ.name (i:=0) rfl)
 refine zf2 ?_ ?_
 exact T.n_range
 refine zaa ?_ ?_
 refine zbj ?_ ?_
 exact zab 0
 exact zah
 exact zad
 intro _ _ _
 exact zam 0 zq5
 intro _ _ _
 exact zcB
 intro _ _ _
 refine zpN ?_ ?_
 exact zab 1
 exact zab 0
 exact zad
theorem nd_35:(["box","stock","many","offers","gone","left"]:List Str).Nodup:=by decide +kernel
theorem znj:(["things","price","gone"]:List Str).Nodup:=by decide +kernel
theorem zqZ:(["thing","gone"]:List Str).Nodup:=by decide +kernel
theorem zqf:(["offer"]:List Str).Nodup:=by decide +kernel
theorem sc_35:zaq ["box","stock","many","offers","gone","left"] ["box","stock"] (zae s_35):=⟨rfl,rfl,rfl,by decide +kernel,rfl,by decide +kernel,by decide +kernel⟩
theorem ok_35 (T:Tx K mg t):zbw P w K mg base CX0 2 t.a_35 t.d_35 ["box","stock"] (zb6 K 2 F_35):=by
 have G_30:=ok_30 (P:=P) (w:=w) (base:=base) T
 refine zbv (k:=1) (G:=G_35) (N:=["box","stock","many","offers","gone","left"]) (ps:=["box","stock"]) (st:=s_35) T.F_35 sc_35 fun cdv A outer s H E hr=> ?_
 refine zaf ?_ ?_
 refine zhS ?_ ?_
 exact zab 1
 refine zed ?_ ?_
 exact rfl
 refine zaS ?_ ?_
 exact zam 2 nd_35
 refine zaS ?_ ?_
 exact zam 3 nd_35
 exact zcT
 refine zaf ?_ ?_
 refine zaA 4 ?_ ?_
 exact nd_35
 refine zar (k:=1) (g:=t.a_30) (fd:=t.d_30) (ps:=["box","many"]) ?_ ?_ ?_ ?_ ?_ ?_
 exact G_30
 exact (hr.mono (by decide))
 exact T.m_30
 exact T.F_30.kp
 exact T.b_30
 refine zaa ?_ ?_
 exact zab 0
 refine zaa ?_ ?_
 exact zab 2
 exact zad
 refine zaf ?_ ?_
 refine zg3 5 (N:=["things","price","gone"]) ?_ ?_ ?_ ?_ ?_ ?_ ?_ ?_
 exact rfl
 exact nd_35
 exact (BOk.of (Xn:=(zae s_35).names) (XN:=["box","stock","many","offers","gone","left"]) rfl rfl rfl (by decide +kernel))
 exact (zaQ.tup (zbL.cons (i:=0) rfl (zbL.cons (i:=1) rfl zbL.nil)))
 refine zb7 ?_
 exact zab 3
 intro _ _ _
 refine zed ?_ ?_
 exact rfl
 refine zaS ?_ ?_
 exact zam 0 znj
 refine zaS ?_ ?_
 exact zam 1 znj
 exact zcT
 intro _ _ _
 exact zcB
 intro _ _ _
 refine zcu ?_
 refine zaa ?_ ?_
 refine zbd (T:="tuple") ?_ ?_ ?_ ?_
 exact zaJ
 exact za8
 exact T.n_tuple
 refine zaa ?_ ?_
 refine zbF (N:=["thing","gone"]) ?_ ?_ ?_ ?_ ?_ ?_ ?_
 exact rfl
 exact (BOk.of (N:=["thing","gone"]) (src:=[none,some 2]) rfl rfl rfl (by rfl))
 exact (zaQ.name (i:=0) rfl)
 refine zb7 ?_
 exact zab 0
 intro _ _ _
 exact zam 0 zqZ
 intro _ _ _
 refine zeX ?_
 refine zaT ?_ ?_ ?_
 exact (zdB (zfw hr))
 exact zab 0
 exact zab 1
 intro _ _ _
 exact zab 0
 exact zad
 refine zaa ?_ ?_
 exact zab 1
 exact zad
 refine zak ?_
 refine zaZ ?_
 refine zcu ?_
 refine zaa ?_ ?_
 exact zab 2
 refine zaa ?_ ?_
 refine zbd (T:="tuple") ?_ ?_ ?_ ?_
 exact zaJ
 exact za8
 exact T.n_tuple
 refine zaa ?_ ?_
 refine zbF (N:=["offer"]) ?_ ?_ ?_ ?_ ?_ ?_ ?_
 exact rfl
 exact (BOk.of (Xn:=(zae s_35).names) (XN:=["box","stock","many","offers","gone","left"]) rfl rfl rfl (by decide +kernel))
 exact (zaQ.name (i:=0) rfl)
 refine zb7 ?_
 exact zab 5
 intro _ _ _
 exact zam 0 zqf
 intro _ _ _
 refine zeX ?_
 refine zaT ?_ ?_ ?_
 exact (zdB (zfw hr))
 refine zbj ?_ ?_
 exact zab 0
 exact zah
 refine zcu ?_
 exact zad
 intro _ _ _
 exact zab 0
 exact zad
 exact zad
theorem nd_45:(["script","k","box","many","found","stock"]:List Str).Nodup:=by decide +kernel
theorem zqg:(["one"]:List Str).Nodup:=by decide +kernel
theorem sc_45:zaq ["script","k","box","many","found","stock"] ["script"] (zae s_45):=⟨rfl,rfl,rfl,by decide +kernel,rfl,by decide +kernel,by decide +kernel⟩
theorem ok_45 (T:Tx K mg t):zbw P w K mg base CX0 9 t.a_45 t.d_45 ["script"] (zb6 K 1 F_45):=by
 have G_29:=ok_29 (P:=P) (w:=w) (base:=base) T
 have G_30:=ok_30 (P:=P) (w:=w) (base:=base) T
 have G_42:=ok_42 (P:=P) (w:=w) (base:=base) T
 have G_43:=ok_43 (P:=P) (w:=w) (base:=base) T
 have G_38:=ok_38 (P:=P) (w:=w) (base:=base) T
 have G_34:=ok_34 (P:=P) (w:=w) (base:=base) T
 have G_44:=ok_44 (P:=P) (w:=w) (base:=base) T
 have G_35:=ok_35 (P:=P) (w:=w) (base:=base) T
 refine zbv (k:=8) (G:=G_45) (N:=["script","k","box","many","found","stock"]) (ps:=["script"]) (st:=s_45) T.F_45 sc_45 fun cdv A outer s H E hr=> ?_
 refine zaf ?_ ?_
 refine zdE ?_ ?_ ?_ ?_ ?_
 exact rfl
 exact PassesOwn.never
 refine zf2 ?_ ?_
 exact T.n_range
 refine zaa ?_ ?_
 refine zaR (id:="max") ?_ ?_ ?_ ?_
 exact (zjh rfl)
 exact zkm
 exact T.n_max
 refine zaa ?_ ?_
 exact zah
 refine zaa ?_ ?_
 refine zaR (id:="min") ?_ ?_ ?_ ?_
 exact (zi1 rfl)
 exact zp2
 exact T.n_min
 refine zaa ?_ ?_
 refine zaR (id:="len") ?_ ?_ ?_ ?_
 exact za6
 exact zcM
 exact T.n_len
 refine zaa ?_ ?_
 exact zab 0
 exact zad
 refine zaa ?_ ?_
 exact zah
 exact zad
 exact zad
 exact zad
 exact zam 1 nd_45
 refine zaf ?_ ?_
 refine zaA 2 ?_ ?_
 exact nd_45
 refine zar (k:=2) (g:=t.a_29) (fd:=t.d_29) (ps:=["script","k"]) ?_ ?_ ?_ ?_ ?_ ?_
 exact G_29
 exact (hr.mono (by decide))
 exact T.m_29
 exact T.F_29.kp
 exact T.b_29
 refine zaa ?_ ?_
 exact zab 0
 refine zaa ?_ ?_
 exact zab 1
 exact zad
 refine zaf ?_ ?_
 refine zaA 3 ?_ ?_
 exact nd_45
 refine zbj ?_ ?_
 refine zfl ?_
 refine zaa ?_ ?_
 refine zar (k:=1) (g:=t.a_30) (fd:=t.d_30) (ps:=["box","many"]) ?_ ?_ ?_ ?_ ?_ ?_
 exact G_30
 exact (hr.mono (by decide))
 exact T.m_30
 exact T.F_30.kp
 exact T.b_30
 refine zaa ?_ ?_
 exact zab 2
 refine zaa ?_ ?_
 exact zah
 exact zad
 refine zaa ?_ ?_
 refine zar (k:=1) (g:=t.a_30) (fd:=t.d_30) (ps:=["box","many"]) ?_ ?_ ?_ ?_ ?_ ?_
 exact G_30
 exact (hr.mono (by decide))
 exact T.m_30
 exact T.F_30.kp
 exact T.b_30
 refine zaa ?_ ?_
 exact zab 2
 refine zaa ?_ ?_
 exact zah
 exact zad
 refine zaa ?_ ?_
 exact zah
 exact zad
 refine zar (k:=1) (g:=t.a_30) (fd:=t.d_30) (ps:=["box","many"]) ?_ ?_ ?_ ?_ ?_ ?_
 exact G_30
 exact (hr.mono (by decide))
 exact T.m_30
 exact T.F_30.kp
 exact T.b_30
 refine zaa ?_ ?_
 exact zab 2
 refine zaa ?_ ?_
 exact zah
 exact zad
 refine zaf ?_ ?_
 refine zaA 4 ?_ ?_
 exact nd_45
 refine zar (k:=8) (g:=t.a_42) (fd:=t.d_42) (ps:=["way","thing"]) ?_ ?_ ?_ ?_ ?_ ?_
 exact G_42
 exact (hr.mono (by decide))
 exact T.m_42
 exact T.F_42.kp
 exact T.b_42
 refine zaa ?_ ?_
 exact zah
 refine zaa ?_ ?_
 exact zab 3
 exact zad
 refine zaf ?_ ?_
 refine zhQ ?_ ?_ ?_
 refine zc4 ?_
 refine zeK ?_ ?_
 refine zdP ?_
 refine zdo ?_
 refine zar (k:=2) (g:=t.a_38) (fd:=t.d_38) (ps:=["thing"]) ?_ ?_ ?_ ?_ ?_ ?_
 exact G_38
 exact (hr.mono (by decide))
 exact T.m_38
 exact T.F_38.kp
 exact T.b_38
 refine zaa ?_ ?_
 exact zab 4
 exact zad
 refine zeZ ?_
 refine zaT ?_ ?_ ?_
 exact (zdB (zfw hr))
 exact zab 4
 refine zar (k:=2) (g:=t.a_43) (fd:=t.d_43) (ps:=["many"]) ?_ ?_ ?_ ?_ ?_ ?_
 exact G_43
 exact (hr.mono (by decide))
 exact T.m_43
 exact T.F_43.kp
 exact T.b_43
 refine zaa ?_ ?_
 exact zab 3
 exact zad
 refine zak ?_
 refine zaZ ?_
 exact zpk
 exact zbZ
 refine zaf ?_ ?_
 refine zhQ ?_ ?_ ?_
 refine zaT ?_ ?_ ?_
 exact (zdB (zfw hr))
 refine zar (k:=8) (g:=t.a_42) (fd:=t.d_42) (ps:=["way","thing"]) ?_ ?_ ?_ ?_ ?_ ?_
 exact G_42
 exact (hr.mono (by decide))
 exact T.m_42
 exact T.F_42.kp
 exact T.b_42
 refine zaa ?_ ?_
 exact zah
 refine zaa ?_ ?_
 refine zbj ?_ ?_
 refine zfl ?_
 refine zaa ?_ ?_
 refine zsa ?_
 exact zah
 refine zaa ?_ ?_
 exact zah
 refine zaa ?_ ?_
 exact zpk
 refine zaa ?_ ?_
 exact zeH
 refine zaa ?_ ?_
 exact zdm
 refine zaa ?_ ?_
 refine zcu ?_
 refine zaa ?_ ?_
 exact zah
 exact zad
 refine zaa ?_ ?_
 refine zbm ?_ ?_ ?_
 exact zkN
 exact zah
 exact zah
 exact zad
 refine zar (k:=1) (g:=t.a_30) (fd:=t.d_30) (ps:=["box","many"]) ?_ ?_ ?_ ?_ ?_ ?_
 exact G_30
 exact (hr.mono (by decide))
 exact T.m_30
 exact T.F_30.kp
 exact T.b_30
 refine zaa ?_ ?_
 exact zab 2
 refine zaa ?_ ?_
 exact zah
 exact zad
 exact zad
 exact zdm
 refine zak ?_
 refine zaZ ?_
 exact zpk
 exact zbZ
 refine zaf ?_ ?_
 refine zaA 5 ?_ ?_
 exact nd_45
 refine zar (k:=3) (g:=t.a_34) (fd:=t.d_34) (ps:=["box","most","lots"]) ?_ ?_ ?_ ?_ ?_ ?_
 exact G_34
 exact (hr.mono (by decide))
 exact T.m_34
 exact T.F_34.kp
 exact T.b_34
 refine zaa ?_ ?_
 exact zab 2
 refine zaa ?_ ?_
 exact zah
 refine zaa ?_ ?_
 exact zah
 exact zad
 refine zaf ?_ ?_
 refine zaA 4 ?_ ?_
 exact nd_45
 refine zar (k:=8) (g:=t.a_42) (fd:=t.d_42) (ps:=["way","thing"]) ?_ ?_ ?_ ?_ ?_ ?_
 exact G_42
 exact (hr.mono (by decide))
 exact T.m_42
 exact T.F_42.kp
 exact T.b_42
 refine zaa ?_ ?_
 exact zah
 refine zaa ?_ ?_
 exact zab 5
 exact zad
 refine zaf ?_ ?_
 refine zhQ ?_ ?_ ?_
 refine zc4 ?_
 refine zeK ?_ ?_
 refine zdP ?_
 refine zdo ?_
 refine zjd ?_ ?_ ?_ ?_ ?_
 exact zg9
 exact za8
 exact T.n_isinstance
 exact T.n_tuple
 exact zab 4
 refine zeK ?_ ?_
 refine zdP ?_
 refine zdo ?_
 refine zaR (id:="all") ?_ ?_ ?_ ?_
 exact (zkL rfl)
 exact zpu
 exact T.n_all
 refine zaa ?_ ?_
 refine zbF (N:=["one"]) ?_ ?_ ?_ ?_ ?_ ?_ ?_
 exact rfl
 exact (BOk.of (Xn:=(zae s_45).names) (XN:=["script","k","box","many","found","stock"]) rfl rfl rfl (by decide +kernel))
 exact (zaQ.name (i:=0) rfl)
 refine zb7 ?_
 exact zab 4
 intro _ _ _
 exact zam 0 zqg
 intro _ _ _
 exact zcB
 intro _ _ _
 refine zar (k:=2) (g:=t.a_38) (fd:=t.d_38) (ps:=["thing"]) ?_ ?_ ?_ ?_ ?_ ?_
 exact G_38
 exact (hr.mono (by decide))
 exact T.m_38
 exact T.F_38.kp
 exact T.b_38
 refine zaa ?_ ?_
 exact zab 0
 exact zad
 exact zad
 refine zeZ ?_
 refine zaT ?_ ?_ ?_
 exact (zdB (zfw hr))
 exact zab 4
 refine zar (k:=5) (g:=t.a_44) (fd:=t.d_44) (ps:=["stock"]) ?_ ?_ ?_ ?_ ?_ ?_
 exact G_44
 exact (hr.mono (by decide))
 exact T.m_44
 exact T.F_44.kp
 exact T.b_44
 refine zaa ?_ ?_
 exact zab 5
 exact zad
 refine zak ?_
 refine zaZ ?_
 exact zpk
 exact zbZ
 refine zak ?_
 refine zhQ ?_ ?_ ?_
 refine zaT ?_ ?_ ?_
 exact (zdB (zfw hr))
 refine zar (k:=8) (g:=t.a_42) (fd:=t.d_42) (ps:=["way","thing"]) ?_ ?_ ?_ ?_ ?_ ?_
 exact G_42
 exact (hr.mono (by decide))
 exact T.m_42
 exact T.F_42.kp
 exact T.b_42
 refine zaa ?_ ?_
 exact zah
 refine zaa ?_ ?_
 refine zar (k:=2) (g:=t.a_35) (fd:=t.d_35) (ps:=["box","stock"]) ?_ ?_ ?_ ?_ ?_ ?_
 exact G_35
 exact (hr.mono (by decide))
 exact T.m_35
 exact T.F_35.kp
 exact T.b_35
 refine zaa ?_ ?_
 exact zab 2
 refine zaa ?_ ?_
 exact zab 5
 exact zad
 exact zad
 exact zdm
 refine zak ?_
 refine zaZ ?_
 exact zpk
 exact zbZ
 refine zak ?_
 refine zaZ ?_
 refine zl6 ?_ ?_
 refine zjf ?_ ?_ ?_
 exact (ze5 (zfw hr))
 refine zar (k:=8) (g:=t.a_42) (fd:=t.d_42) (ps:=["way","thing"]) ?_ ?_ ?_ ?_ ?_ ?_
 exact G_42
 exact (hr.mono (by decide))
 exact T.m_42
 exact T.F_42.kp
 exact T.b_42
 refine zaa ?_ ?_
 exact zah
 refine zaa ?_ ?_
 exact zah
 exact zad
 refine zcu ?_
 refine zaa ?_ ?_
 exact zah
 refine zaa ?_ ?_
 exact zah
 exact zad
 refine zme ?_
 refine zjf ?_ ?_ ?_
 exact (ze5 (zfw hr))
 refine zar (k:=8) (g:=t.a_42) (fd:=t.d_42) (ps:=["way","thing"]) ?_ ?_ ?_ ?_ ?_ ?_
 exact G_42
 exact (hr.mono (by decide))
 exact T.m_42
 exact T.F_42.kp
 exact T.b_42
 refine zaa ?_ ?_
 exact zah
 refine zaa ?_ ?_
 exact zah
 exact zad
 refine zcu ?_
 refine zaa ?_ ?_
 exact zah
 refine zaa ?_ ?_
 exact zah
 exact zad
end
end K23
namespace L3
open PySem PySem.Spec PyProof.Rows L2 LT
section
theorem zcR {n:Nat} {tc:FT} {gb:FS} {sd:Sd}:zbE tc gb (n+1) sd=(do let b<-tc sd;if b=true then (do let o<-gb sd;match o with | .nx sd'=>zbE tc gb n sd' | .ct sd'=>zbE tc gb n sd' | .bk sd'=>pure (.nx sd') | .rt d=>pure (.rt d)) else pure (.nx sd)):=rfl
theorem zhl (k:Int) (xs:List Int):zhb (.int k) (.tup (xs.map D.int))=pure (.bl (!xs.any (· == k))):=by
 show zlB true (.int k) (.tup (xs.map D.int))=_
 unfold zlB
 simp only [pd]
 rw [zcK]
 have c:zgR (.int k) (xs.map PyData.int)=true:=by
  unfold zgR
  simp [PyData.canLay0,zaY,PyData.depth,zbc]
 simp only [c,if_true,zdL]
theorem zes {k:Int} {xs:List Int}:xs.any (· == k)=true↔k∈xs:=by
 rw [List.any_eq_true]
 constructor
 ·rintro ⟨x,hx,e⟩
  rw [beq_iff_eq] at e
  exact e▸hx
 ·intro h
  exact ⟨k,h,by simp⟩
theorem zc6 {α β:Type} {p:α->Bool} {g:α->β}: ∀ xs:List α,xs.filterMap (fun x=>if p x=true then some (g x) else none)=(xs.filter p).map g
 | []=>rfl
 | x::r=>by
  rw [qat,List.filter_cons,zc6 r]
  cases p x<;>simp
theorem zbX {α:Type} {g':α->D} {fi:FA} {g:D->Sd->M Sd} {tc:FT} {te:FE} {src:List (Option Nat)} {sd:Sd} {xs:List α} {k:α->Option D} (hi:fi sd=pure (xs.map g')) (hl:xs.length<=1000) (hf: ∀ x∈xs,zbl g tc te (zas src sd) (g' x)=pure (k x)):zaI fi g tc te src sd=pure (.lst (xs.filterMap k)):=by
 unfold zaI
 rw [hi]
 simp only [pure_bind]
 rw [zay (by rw [qaH];exact hl)]
 simp only [pure_bind]
 have: ∀ {ys:List α},(∀ x∈ys,zbl g tc te (zas src sd) (g' x)=pure (k x))->zbY (zbl g tc te (zas src sd)) (ys.map g')=pure (ys.filterMap k):=by
  intro ys
  induction ys with
  | nil=>intro _;rfl
  | cons x r ih=>
   intro hf
   rw [qaM,zbY,hf x qau,ih fun y hy=>hf y (qan _ hy)]
   simp only [pure_bind]
   cases e:k x<;>simp [qat,e]
 rw [this hf]
 simp only [pure_bind]
theorem zkk {x y:D} {a b:PyData} (e1:pd x=some a) (e2:pd y=some b) (h:zfM a b=true):dNe x y=pure (.bl (!PyData.eqv a b)):=by
 show zjt true x y=_
 unfold zjt
 rw [e1,e2]
 simp only [h,if_true]
theorem znf (xs ys:List Int):dNe (tI xs) (tI ys)=pure (.bl (!(xs==ys))):=by
 rw [zkk (ziU xs) (ziU ys) (by unfold zfM;simp [PyData.canLay0,zaY,PyData.depth,zbc])]
 simp only [PyData.eqv,zet]
theorem zqG {i j:Nat} {f g:FE} {sd:Sd}:zpl i j (zac f (zac g zav)) sd=(do let x<-f sd;let y<-g sd;pure (.nx ((sd.set i (some x)).set j (some y)))):=by
 unfold zpl
 simp only [zaP,za7,bind_assoc,pure_bind]
noncomputable def zbg (p k:Nat):D:= .tup [.int ((p / Nat.gcd p k:Nat):Int),.int ((k / Nat.gcd p k:Nat):Int)]
theorem zsK {p c p' c':Nat} (hc:0<c) (hc':0<c'):(p / Nat.gcd p c)*(c' / Nat.gcd p' c')<(p' / Nat.gcd p' c')*(c / Nat.gcd p c)↔p*c'<p'*c:=by
 have g0:=Nat.gcd_pos_of_pos_right p hc
 have g0':=Nat.gcd_pos_of_pos_right p' hc'
 obtain ⟨a,ea⟩:=Nat.gcd_dvd_left p c
 obtain ⟨b,eb⟩:=Nat.gcd_dvd_right p c
 obtain ⟨a',ea'⟩:=Nat.gcd_dvd_left p' c'
 obtain ⟨b',eb'⟩:=Nat.gcd_dvd_right p' c'
 generalize Nat.gcd p c=g at*
 generalize Nat.gcd p' c'=g' at*
 subst ea eb ea' eb'
 rw [Nat.mul_div_cancel_left _ g0,Nat.mul_div_cancel_left _ g0,Nat.mul_div_cancel_left _ g0',Nat.mul_div_cancel_left _ g0']
 rw [show g*a*(g'*b')=(g*g')*(a*b') by ac_rfl,show g'*a'*(g*b)=(g*g')*(a'*b) by ac_rfl]
 exact (Nat.mul_lt_mul_left (Nat.mul_pos g0 g0')).symm
noncomputable def bb:Nat:=2^1000
theorem zrq {n:Nat} (h:n<=1000):2^n<=bb:=Nat.pow_le_pow_right (by decide) h
theorem zdD {i:Int} {k:Nat} (h0:0<k) (h1:k<=bb):zeI (.int i) (.int (k:Int))=pure (.int (i / (k:Int))):=by
 have hb:bb<2^8000:=Nat.pow_lt_pow_right (by decide) (by decide)
 have h2:((k:Int):Int)<2^8000:=by
  have:((k:Nat):Int)<((2^8000:Nat):Int):=Int.ofNat_lt.mpr (Nat.lt_of_le_of_lt h1 hb)
  rw [Int.natCast_pow] at this
  exact this
 unfold zeI dII
 simp only
 rw [qa4]
 rw [qaG,qaD,qaD]
 exact ⟨by omega,h2⟩
theorem euc {a b n:Nat} (hb:b≠0) (hab:b<=a) (h:a*b<2^(n+1)):b*(a % b)<2^n:=by
 have hp:0<b:=Nat.pos_of_ne_zero hb
 have h1:=Nat.div_add_mod a b
 have h2:1<=a / b:=(Nat.one_le_div_iff hp).mpr hab
 have h3:=Nat.mod_lt a hp
 have h4:b+a % b<=a:=by
  have:b*1<=b*(a / b):=Nat.mul_le_mul_left b h2
  omega
 have h5:(b+a % b)*b<=a*b:=Nat.mul_le_mul_right b h4
 have h6:b*(a % b)+b*(a % b)<=(b+a % b)*b:=by
  rw [Nat.add_mul,Nat.mul_comm (a % b) b]
  have:b*(a % b)<=b*b:=Nat.mul_le_mul_left b (Nat.le_of_lt h3)
  omega
 rw [Nat.pow_succ] at h
 omega
end
section
def Kp (N:Nat) (h h':Hh):Prop:=N<=h'.length/\ ∀ k,k<N->h'[k]? = h[k]?
theorem Kp.gro {h h':Hh} (k:Kp h.length h h'):Gro h h':=by
 refine ⟨h'.drop h.length,List.ext_getElem? fun j=> ?_⟩
 by_cases hj:j<h.length
 ·rw [qad hj,k.2 j hj]
 ·rw [qaa (by omega),List.getElem?_drop]
  congr 1
  omega
theorem zlq {n:Nat} {h:Hh} {ds:List D} {P:D->Hh->Prop} (e:h[n]? = some (.lst ds)) (k:P (.lst ds) (h.set n .dead)):wp (zpd (.cel n)) h P:=by
 refine ⟨.lst ds,h.set n .dead,?_,k⟩
 unfold zpd
 simp only
 rw [e]
noncomputable abbrev Acc:=Option (Nat×Nat×Nat)
noncomputable def stp (acc:Acc) (x:Nat×Nat×Nat):Acc:=match acc with
 | none=>some x
 | some y=>if x.1*y.2.1<y.1*x.2.1 then some x else some y
noncomputable def zi5:Acc->D
 | none=> .non
 | some y=> .int (y.2.2:Int)
noncomputable def zrK:Acc->D
 | none=> .non
 | some y=>zbg y.1 y.2.1
noncomputable def zft (x:Nat×Nat×Nat):D:= .tup [.int (x.1:Int),.int (x.2.1:Int),.int (x.2.2:Int)]
noncomputable def zmO:Acc->D
 | none=> .non
 | some y=>zft y
def zrF (acc:Acc):Prop:= ∀ y,acc=some y->0<y.2.1/\y.2.1<=12
theorem zik {acc:Acc} {x:Nat×Nat×Nat} (h:zrF acc) (h0:0<x.2.1) (h1:x.2.1<=12):zrF (stp acc x):=by
 intro y e
 unfold stp at e
 split at e
 ·cases e
  exact ⟨h0,h1⟩
 ·rename_i z
  split at e
  ·cases e
   exact ⟨h0,h1⟩
  ·cases e
   exact h _ rfl
end
section
theorem zmI:PyData.strOk "! full"=true:=by decide +kernel
theorem zmc {h:Hh} {n:Nat} {xs:List Int} (e:h[n]? = some (.lst (xs.map D.int))):pdH h (.cel n)=some (.list (xs.map PyData.int)):=by
 rw [pdH,e]
 show (pdL (xs.map D.int)).map PyData.list=_
 rw [zcK]
 rfl
theorem zjR {h:Hh} {n:Nat} {xs:List Int} {k:Int} {P:D->Hh->Prop} (e:h[n]? = some (.lst (xs.map D.int))) (q:P (.bl (!xs.any (· == k))) h):wp (zeD (.int k) (.cel n)) h P:=by
 refine ⟨_,h,?_,q⟩
 unfold zeD
 rw [zmc e,show pdH h (.int k)=some (.int k) by rw [pdH]]
 have c:zgR (.int k) (xs.map PyData.int)=true:=by
  unfold zgR
  simp [PyData.canLay0,zaY,PyData.depth,zbc]
 simp only [c,if_true,zdL]
theorem zh5 {k:Nat} (h:k<1000):k<bb:=qaw (Nat.lt_trans h (by decide:1000<2^10)) (zrq (by decide))
theorem zq6 {n:Nat}:zgh [.cel n]=(do let ds<-zan n;pure (.int ds.length)):=rfl
end
section
noncomputable def fct:Nat->Nat
 | 0=>1
 | n+1=>fct n*(n+1)
noncomputable def hT:Nat->Nat
 | 0=>0
 | n+1=>hT n*(n+1)+fct n
theorem zdy: ∀ n,0<fct n
 | 0=>by decide
 | n+1=>Nat.mul_pos (zdy n) (Nat.succ_pos n)
theorem zjJ: ∀ (n k:Nat),0<k->k<=n->k ∣ fct n
 | 0,k,h0,h1=>by omega
 | n+1,k,h0,h1=>by
  by_cases e:k=n+1
  ·subst e
   exact Nat.dvd_mul_left _ _
  ·exact Nat.dvd_trans (zjJ n k h0 (by omega)) (Nat.dvd_mul_right _ _)
theorem zmN: ∀ n,n<=100->fct n<=2^(7*n)
 | 0,_=>by decide
 | n+1,h=>by
  have h1:=zmN n (by omega)
  have h2:n+1<=2^7:=by
   have:(2:Nat)^7=128:=by decide
   omega
  show fct n*(n+1)<=_
  rw [show 7*(n+1)=7*n+7 by omega,Nat.pow_add]
  exact Nat.mul_le_mul h1 h2
theorem zkW {n:Nat} (h:n<=100):fct n<bb:=Nat.lt_of_le_of_lt (zmN n h) (Nat.pow_lt_pow_right (by decide) (by omega))
theorem zqq {n:Nat} (h:0<n):0<hT n:=by
 cases n with
 | zero=>cases h
 | succ n=>
  have:=zdy n
  show 0<hT n*(n+1)+fct n
  omega
noncomputable def prt (n:Nat):List Nat:=(List.range n).map fun k=>fct n / (1+k)
theorem zkT: ∀ n,(prt n).sum=hT n
 | 0=>rfl
 | n+1=>by
  have e:prt (n+1)=(prt n).map (fun z=>z*(n+1))++[fct n]:=by
   unfold prt
   rw [List.range_succ,List.map_append,qaT]
   congr 1
   ·refine List.map_congr_left fun k hk=> ?_
    have hk:=List.mem_range.mp hk
    show fct n*(n+1) / (1+k)=fct n / (1+k)*(n+1)
    exact (Nat.div_mul_right_comm (zjJ n (1+k) (by omega) (by omega)) _).symm
   ·show [fct n*(n+1) / (1+n)]=_
    rw [Nat.add_comm 1 n,Nat.mul_div_cancel _ (Nat.succ_pos n)]
  have es: ∀ xs:List Nat,(xs.map fun z=>z*(n+1)).sum=xs.sum*(n+1):=fun xs=>by
   induction xs with
   | nil=>simp
   | cons x r ih=>rw [qaM,List.sum_cons,List.sum_cons,ih,Nat.add_mul]
  rw [e,List.sum_append,es,zkT n]
  show _=hT n*(n+1)+fct n
  simp
theorem zhF {n:Nat} (h:n<=500):zkd [.int 1,.int ((n:Int)+1)]=pure ((List.range n).map fun (k:Nat)=> .int (1+(k:Int))):=by
 show (if zbs 1=true/\zbs ((n:Int)+1)=true then (pure (zeO 1 ((n:Int)+1 - 1).toNat):M (List D)) else M.bad)=_
 rw [qa4 ⟨by decide,by unfold zbs;simp;omega⟩]
 rw [show ((n:Int)+1 - 1).toNat=n by omega]
 rfl
end
section
theorem zcz (p:Int×D) (r:List (Int×D)) (j:Int):zec (p::r) j=if p.1==j then some p.2 else zec r j:=by
 unfold zec
 rw [List.find?_cons]
 cases p.1==j<;>rfl
theorem zia {k j:Int} {d:D}: ∀ kvs:List (Int×D),zec (kvs.map fun p=>if p.1=k then (p.1,d) else p) j=if k==j then (zec kvs j).map fun _=>d else zec kvs j
 | []=>by simp [zec]
 | p::r=>by
  rw [qaM,zcz,zcz,zia r]
  by_cases h1:p.1=k
  ·subst h1
   by_cases h2:p.1=j
   ·subst h2
    simp
   ·simp [h2]
  ·rw [qa5 h1]
   by_cases h2:p.1=j
   ·subst h2
    simp [Ne.symm h1]
   ·simp [h2]
theorem zit {k j:Int} {d:D}: ∀ kvs:List (Int×D),(kvs.any fun p=>decide (p.1=k))=false->zec (kvs++[(k,d)]) j=if k==j then some d else zec kvs j
 | [],_=>by rw [List.nil_append,zcz]
 | p::r,h=>by
  rw [List.any_cons,Bool.or_eq_false_iff,decide_eq_false_iff_not] at h
  rw [List.cons_append,zcz,zcz,zit r h.2]
  by_cases h2:p.1=j
  ·subst h2
   simp [Ne.symm h.1]
  ·simp [h2]
theorem zh3 {k:Int}: ∀ kvs:List (Int×D),(kvs.any fun p=>decide (p.1=k))=true-> ∃ x,zec kvs k=some x
 | [],h=>by cases h
 | p::r,h=>by
  rw [zcz]
  by_cases h1:p.1=k
  ·exact ⟨p.2,by simp [h1]⟩
  ·rw [List.any_cons,decide_eq_false h1,Bool.false_or] at h
   obtain ⟨x,hx⟩:=zh3 r h
   exact ⟨x,by simp [h1,hx]⟩
theorem zlM (kvs:List (Int×D)) (k j:Int) (d:D):zec (zfj kvs k d) j=if k==j then some d else zec kvs j:=by
 unfold zfj
 split
 ·rename_i h
  rw [zia]
  by_cases e:k=j
  ·subst e
   obtain ⟨x,hx⟩:=zh3 kvs h
   simp [hx]
  ·simp [e]
 ·rename_i h
  exact zit kvs (Bool.not_eq_true _▸h)
theorem zhV (kvs:List (Int×D)) (k:Int) (d:D):(zfj kvs k d).length<=kvs.length+1:=by
 unfold zfj
 split
 ·rw [qaH]
  omega
 ·rw [qav,List.length_singleton]
  omega
noncomputable def zbh {α:Type} (f:α->D) (kvs:List (Int×D)) (as:List (Int×α)):List (Int×D):=as.foldl (fun m a=>zfj m a.1 (f a.2)) kvs
noncomputable def zhP {α:Type} (as:List (Int×α)) (t:Int) (o:Option α):Option α:=as.foldl (fun o a=>if a.1==t then some a.2 else o) o
theorem zjx {α:Type} {f:α->D} {t:Int}: ∀ (as:List (Int×α)) {kvs:List (Int×D)} {o:Option α},zec kvs t=o.map f->zec (zbh f kvs as) t=(zhP as t o).map f
 | [],kvs,o,h=>h
 | a::r,kvs,o,h=>by
  show zec (zbh f (zfj kvs a.1 (f a.2)) r) t=(zhP r t (if a.1==t then some a.2 else o)).map f
  refine zjx r ?_
  rw [zlM,h]
  cases a.1==t<;>rfl
theorem zgw {α:Type} {t:Int}: ∀ (as:List (Int×α)) {o:Option α},((∃ x,o=some x)\/ ∃ a∈as,a.1=t)-> ∃ x,zhP as t o=some x
 | [],o,h=>by
  rcases h with h | ⟨a,ha,_⟩
  ·exact h
  ·cases ha
 | a::r,o,h=>by
  show ∃ x,zhP r t (if a.1==t then some a.2 else o)=some x
  refine zgw r ?_
  by_cases e:a.1=t
  ·exact .inl ⟨a.2,by simp [e]⟩
  ·rcases h with ⟨x,hx⟩ | ⟨b,hb,eb⟩
   ·exact .inl ⟨x,by simp [e,hx]⟩
   ·rcases qaP.mp hb with rfl | hb
    ·exact absurd eb e
    ·exact .inr ⟨b,hb,eb⟩
theorem zir {α:Type} {t:Int} {x:α}: ∀ (as:List (Int×α)) {o:Option α},zhP as t o=some x->o=some x\/ ∃ a∈as,a.2=x
 | [],o,h=> .inl h
 | a::r,o,h=>by
  have h:zhP r t (if a.1==t then some a.2 else o)=some x:=h
  rcases zir r h with z | ⟨b,hb,e⟩
  ·cases he:a.1==t
   ·rw [he] at z
    exact .inl z
   ·rw [he] at z
    exact .inr ⟨a,qau,by simpa using z⟩
  ·exact .inr ⟨b,qan _ hb,e⟩
theorem zhz {α:Type} {f:α->D}: ∀ (as:List (Int×α)) (kvs:List (Int×D)),(zbh f kvs as).length<=kvs.length+as.length
 | [],kvs=>qaV _
 | a::r,kvs=>by
  have h1:=zhz (f:=f) r (zfj kvs a.1 (f a.2))
  have h2:=zhV kvs a.1 (f a.2)
  show (zbh f (zfj kvs a.1 (f a.2)) r).length<=_
  rw [qaE]
  omega
theorem zk1 {α:Type} {f:α->D} {kvs:List (Int×D)} {as bs:List (Int×α)}:zbh f kvs (as++bs)=zbh f (zbh f kvs as) bs:=List.foldl_append
theorem zoV {α:Type} {g':α->D} {f:D->M (Option D)} {k:α->Option D} {h:Hh}: ∀ {xs:List α} {P:List D->Hh->Prop},(∀ x∈xs,wp (f (g' x)) h fun o h'=>o=k x/\h'=h)->P (xs.filterMap k) h->wp (zbY f (xs.map g')) h P
 | [],P,_,q=>by rw [List.map_nil,zbY,zai];exact q
 | x::r,P,hf,q=>by
  rw [qaM,zbY,zaj]
  refine zhv (hf x qau) ?_
  rintro o h' ⟨rfl,rfl⟩
  rw [zaj]
  refine zoV (fun y hy=>hf y (qan _ hy)) ?_
  rw [zai]
  rw [qat] at q
  cases hk:k x<;>rw [hk] at q<;>exact q
theorem zmZ (bt:Nat->Nat->Bool): ∀ k,argBest bt k<=k
 | 0=>qaV _
 | k+1=>by
  have:=zmZ bt k
  rw [argBest]
  split<;>omega
theorem zmF {ns:List Int} (h:0<ns.length):zjo ns∈ns:=by
 unfold zjo
 have h1:=zmZ (fun i j=>decide (ns.getD i 0>ns.getD j 0)) (ns.length - 1)
 have h2:argBest (fun i j=>decide (ns.getD i 0>ns.getD j 0)) (ns.length - 1)<ns.length:=by omega
 rw [List.getD,qaf h2,Option.getD_some]
 exact List.getElem_mem h2
theorem znm {ns:List Int} (h:0<ns.length):zlD [.lst (ns.map D.int)]=pure (.int (zjo ns)):=by
 show (do let ns'<-ofO (zcP (ns.map D.int));if 0<ns'.length then pure (.int (zjo ns')) else M.bad:M D)=_
 rw [zbf]
 show (if 0<ns.length then (pure (.int (zjo ns)):M D) else M.bad)=_
 rw [qa4 h]
theorem zsy: ∀ n,n<11->fct n<=3628800/\hT n<=36288000:=by decide
end
section
theorem zer {h:Hh} {n:Nat} {c:C} (e:h[n]? = some c):h.set n c=h:=by
 refine List.ext_getElem? fun j=> ?_
 by_cases hj:n=j
 ·subst hj
  rw [qai (qac.mp e).1,e]
 ·rw [qao hj]
end
section
theorem znc: ∀ xss:List (List Int),pdL (xss.map tI)=some (xss.map fun xs=> .tuple (xs.map PyData.int))
 | []=>rfl
 | xs::r=>by
  rw [qaM,pdL,znc r,ziU]
  rfl
theorem zjX: ∀ xss:List (List Int),PyData.canLayAll0 (xss.map fun xs=> .tuple (xs.map PyData.int))=true
 | []=>rfl
 | xs::r=>by simp [PyData.canLayAll0,PyData.canLay0,zaY,zjX r]
theorem zoq (xss:List (List Int)):PyData.depthAll (xss.map fun xs=> .tuple (xs.map PyData.int))<=1:=by
 induction xss with
 | nil=>simp [PyData.depthAll]
 | cons o r ih=>
  rw [qaM]
  simp only [PyData.depthAll,PyData.depth,zbc]
  omega
theorem zli: ∀ xss:List (List Int),PyData.eqvAll (xss.map fun xs=> .tuple (xs.map PyData.int)) (xss.map fun xs=> .tuple (xs.map PyData.int))=true
 | []=>rfl
 | xs::r=>by
  rw [qaM]
  simp [PyData.eqvAll,PyData.eqv,zet,zli r]
theorem zlW (xss:List (List Int)):dNe (.tup (xss.map tI)) (.tup (xss.map tI))=pure (.bl false):=by
 have e1:pd (.tup (xss.map tI))=some (.tuple (xss.map fun xs=> .tuple (xs.map PyData.int))):=by
  unfold pd
  rw [znc]
  rfl
 have c:zfM (.tuple (xss.map fun xs=> .tuple (xs.map PyData.int))) (.tuple (xss.map fun xs=> .tuple (xs.map PyData.int)))=true:=by
  have:=zoq xss
  unfold zfM
  simp [PyData.canLay0,zjX,PyData.depth]
  omega
 rw [zkk e1 e1 c]
 simp only [PyData.eqv,zli,Bool.not_true]
theorem zk7 (x y:Str) (hx:PyData.strOk x=true) (hy:PyData.strOk y=true):dNe (.str x) (.str y)=pure (.bl (!(x==y))):=by
 rw [zkk (x:= .str x) (y:= .str y) rfl rfl (by unfold zfM;simp [PyData.canLay0,PyData.depth,hx,hy])]
 rfl
theorem zie:PyData.strOk "! number"=true:=by decide +kernel
theorem zq4:zo6 (.int 10) (.int 30)=pure (.int (10^30)):=by
 unfold zo6 dII
 simp only
 rw [qa4 (by decide)]
 rfl
end
end L3
namespace K23
open PySem PySem.Spec PyProof.Rows L2 L3 LT
set_option hygiene false in
local macro_rules | `(tactic| ac_nf0)=> `(tactic| simp only [za1,zcd,ziG,zcU,zkn,zfo,zoR,zhi,zbx,zaP,za7,zch,zjZ,zfd,zaC,zaK,pure_bind,bind_assoc,zfk,zrM,zfZ,zs5,List.set,zeQ,zq2,zrt,zqT,zsG,zjG,zsj,zjH,zs6,zhm,zh8,zga,zdn,znv,zbA,zoh,zdp,zss,zlU,zkQ,zqz,zfg,zpP,zm0,zsO,zot,zox,zgV,zcN,zkl,zh2,zk2,zgD,zrs,zaj,zai,zgo,qaE,qaJ,qaH,Nat.zero_add,Nat.reduceAdd,Nat.reduceLeDiff,zay,zbT,tI,zkh,znA,zmy,zrl,zl9,ziX,zlN,zsk,znr,zoo,zrd,zrY,zsm,zst,zmJ,zm7,zq1,zrS,zoL,ztl,if_true,Bool.not_true,Bool.not_false,qax,if_false,qav,List.cons_append,List.nil_append,zrf,zpV])
variable {m:Int} {os:List (List Int×Int)} {i:Nat}
theorem zg0 {d:D} (k:kn d=true):F_31 [d]=pure (.bl (isI d)):=by
 rw [d_31]
 simp only [G_31,zcU,zjG,zjZ,zaC,pure_bind,bind_assoc,zkF k,zna k,zdn,zjH]
 cases d<;>simp [isI]
noncomputable def zgL (m:Int):D->Bool
 | .tup [.tup ts,.int p]=>zdO m 0 ts && decide (0<(ts.length:Int)) && decide (0<p)
 | _=>false
theorem zbk {h:Hh} {b:Nat} {m:Int} {P:D->Hh->Prop} (q:Bx b h) (h0:0<m) (h1:m<2^64) (k: ∀ t h',0<=t->t<m->Ext b h h'->P (.int t) h'):wp (F_30 [.cel b,.int m]) h P:=by
 obtain ⟨z,e⟩:=id q
 rw [d_30]
 simp only [G_30,za1,zcd,zch,zaC,zaK,pure_bind,bind_assoc,zfd,zlX,zaj,zbN e,zkQ,zfg,zai,zdv h0,zfk,List.set,ziG,zf9 h0 h1,zkJ,zmV]
 have e2:ixN ([D.int z]:List D).length 0=some 0:=rfl
 simp only [zaj,zbN e,e2,zfg,zai,zfa,zfk,zcU,zaK,zaC,zfZ,List.set]
 exact k _ _ (Int.emod_nonneg _ (by omega)) (Int.emod_lt_of_pos _ h0) q.set
theorem znt {ns:List Int} {k:Int} (h0:0<=k): ∃ c:Int,F_28 [.scr (ns.map D.int),.int k]=pure (.int c):=by
 rw [d_28]
 simp only [G_28,za1,zkn,zeQ,zaK,zaC,pure_bind,bind_assoc,zbx,zaP,za7,zm2,zpc,zdn]
 by_cases hk:k<((ns.map D.int).length:Int)
 ·have hk':k.toNat<ns.length:=by simp at hk;omega
  have ea:atI (ns.map D.int) k=some (.int ns[k.toNat]):=by
   have:=zfC (xs:=ns.map D.int) (j:=k.toNat) (v:= .int ns[k.toNat]) (by simp [hk'])
   rw [<- this]
   congr 1
   omega
  simp only [hk,decide_true,if_true,zcU,zch,zaC,zaK,pure_bind,zrR,ea,zfg,zrM,zfZ]
  exact ⟨_,rfl⟩
 ·simp only [hk,decide_false,qax,if_false,zhi,pure_bind,zfk,zcU,zch,zfd,zaK,zaC,zd8 (show (-1000000000000000:Int)<6151 by decide) (show (6151:Int)<1000000000000000 by decide),zdp,zfZ]
  exact ⟨_,rfl⟩
theorem zhZ {s0 s2:Option D} {k:Int} (k0:0<=k) (k5:k<5): ∀ (ds:List D) (n mx:Int) (x5:Option D),(∀ d∈ds, ∃ j:Int,d= .int j/\0<=j/\j<24)->0<=mx->mx<2147483647->
  ∃ (n' mx':Int) (x5':Option D),zaL (fun x sd=>do let sd1<-zaD 5 x sd;zcS sd1) ds [s0,some (.int k),s2,some (.int n),some (.int mx),x5]=pure (.nx [s0,some (.int k),s2,some (.int n'),some (.int mx'),x5'])
 | [],n,mx,x5,_,_,_=>⟨n,mx,x5,rfl⟩
 | d::r,n,mx,x5,hd,m0,m1=>by
  obtain ⟨j,rfl,j0,j1⟩:=hd _ qau
  obtain ⟨n',mx',x5',ih⟩:=zhZ k0 k5 r (n*2147483647+(mx*48271+7*j*j+11*k+1) % 2147483647) ((mx*48271+7*j*j+11*k+1) % 2147483647) (some (.int j)) (fun y hy=>hd y (qan _ hy)) (Int.emod_nonneg _ (by decide)) (Int.emod_lt_of_pos _ (by decide))
  refine ⟨n',mx',x5',?_⟩
  rw [zbr, <-ih]
  simp only [zcS,zcN,List.set,pure_bind,bind_assoc,za1,zcd,zch,zaK,zaC,zfd,zd8 (show -1000000000000000<mx by omega) (show mx<1000000000000000 by omega),zd8 (show (-1000000000000000:Int)<7 by decide) (show (7:Int)<1000000000000000 by decide),
    zc8 (i:=7*j) (show -1000000000000000<j by omega) (show j<1000000000000000 by omega),zd8 (show (-1000000000000000:Int)<11 by decide) (show (11:Int)<1000000000000000 by decide),zdp,zdv (show (0:Int)<2147483647 by decide),zfk,zc8 (i:=n) (show (-1000000000000000:Int)<2147483647 by decide) (show (2147483647:Int)<1000000000000000 by decide)]
theorem zpT {h:Hh} {ns:List Int} {k:Int} {P:D->Hh->Prop} (k0:0<=k) (k5:k<5) (q: ∀ z:Int,P (.cel h.length) (h++[.lst [.int z]])):wp (F_29 [.scr (ns.map D.int),.int k]) h P:=by
 obtain ⟨c,ec⟩:=znt (ns:=ns) k0
 rw [d_29]
 simp only [G_29,za1,zcd,zbx,zaP,za7,zaC,zaK,pure_bind,bind_assoc,zbA,ec,zfk,List.set,zkn,zeQ,zch,zfd,zdv (show (0:Int)<2 by decide),zrN,zdn]
 by_cases hc:(c % 2==0)=true
 ·simp only [hc,if_true,zcU,zga,zaP,za7,zch,zaK,zaC,zfd,pure_bind,bind_assoc,zf9 (show (0:Int)<2 by decide) (show (2:Int)<2^64 by decide),qaE,qaJ,zay (show 0+1<=1000 by decide),zaj,zgo,zai,zrM,zfZ]
  exact q _
 ·obtain ⟨n',mx',x5',el⟩:=zhZ (s0:=some (.scr (ns.map D.int))) (s2:=some (.int c)) k0 k5 (zeO 0 24) 0 (c % 2147483647) none (fun d hd=>by
    obtain ⟨i,e,i0,i1⟩:=zgd hd
    exact ⟨i,e,i0,by omega⟩) (Int.emod_nonneg _ (by decide)) (Int.emod_lt_of_pos _ (by decide))
  have er:zka [.int 24]=pure (zeO 0 24):=zcI (by decide) (by decide)
  simp only [hc,if_false,zhi,pure_bind,zfk,za1,zcd,zfd,List.set,zch,zaK,zaC,zdv (show (0:Int)<2147483647 by decide),zfo,zgV,zaP,za7,er,bind_assoc,el,zcU,zga,qaE,qaJ,zay (show 0+1<=1000 by decide),zaj,zgo,zai,zfZ,qax]
  exact q _
theorem zhk {a b:Nat} (h:a<=b):(2:Int)^a<=2^b:=by
 have:(2:Nat)^a<=2^b:=Nat.pow_le_pow_right (by decide) h
 exact_mod_cast this
theorem zio {bits:Int}: ∀ (m:Nat),0<bits->bits<2^m-> ∃ j:Nat,j<m/\(bits / 2^j) % 2=1
 | 0,h0,h1=>by simp at h1;omega
 | m+1,h0,h1=>by
  by_cases c:bits<2^m
  ·obtain ⟨j,a,b⟩:=zio m h0 c
   exact ⟨j,by omega,b⟩
  ·refine ⟨m,by omega,?_⟩
   have hp:(0:Int)<2^m:=Int.pow_pos (by decide)
   have e:bits / 2^m=1:=by
    have h2:(2:Int)^(m+1)=2*2^m:=by rw [Int.pow_succ];omega
    have a1:1<=bits / 2^m:=(Int.le_ediv_iff_mul_le hp).mpr (by omega)
    have a2:bits / 2^m<2:=(Int.ediv_lt_iff_lt_mul hp).mpr (by omega)
    omega
   rw [e]
   decide
noncomputable def zpi (bits:Int) (d:D):Option D:=match d with
 | .int j=>if ((bits / 2^j.toNat) % 2==1)=true then some d else none
 | _=>none
theorem zg6 (bits:Int): ∀ xs:List Int,(xs.map D.int).filterMap (zpi bits)=(xs.filter fun j=>(bits / 2^j.toNat) % 2==1).map D.int
 | []=>rfl
 | x::r=>by
  rw [qaM,qat,List.filter_cons,zg6 bits r]
  unfold zpi
  dsimp only
  split<;>simp_all
theorem zk9 {bits:Int} {m:Nat} (h0:0<bits) (h1:bits<2^m):zdO m 0 ((zeO 0 m).filterMap (zpi bits))=true/\(zeO 0 m).filterMap (zpi bits)≠[]:=by
 rw [zdb,zg6]
 constructor
 ·rw [zbI]
  constructor
  ·refine List.Pairwise.filter _ ?_
   rw [List.pairwise_map]
   exact List.pairwise_lt_range.imp fun h=>by omega
  ·intro x hx
   obtain ⟨k,hk,e⟩:=qaU.mp (List.mem_filter.mp hx).1
   have:=List.mem_range.mp hk
   omega
 ·obtain ⟨j,a,b⟩:=zio m h0 h1
  intro z
  have:((j:Int))∈((List.range m).map fun (k:Nat)=>(k:Int)).filter fun j=>(bits / 2^j.toNat) % 2==1:=by
   refine List.mem_filter.mpr ⟨qaU.mpr ⟨j,List.mem_range.mpr a,rfl⟩,?_⟩
   rw [qaB,b]
   rfl
  have z':=List.map_eq_nil_iff.mp z
  rw [z'] at this
  cases this
theorem zjO {h:Hh} {b:Nat} {m:Int} {P:D->Hh->Prop} (q:Bx b h) (h0:1<=m) (h1:m<=10) (k: ∀ ts h',zdO m 0 ts=true->ts≠[]->Ext b h h'->P (.tup ts) h'):wp (F_33 [.cel b,.int m]) h P:=by
 rw [d_33]
 simp only [G_33,za1,zcd,zbx,zaP,za7,zaC,zaK,pure_bind,bind_assoc,zbA,zfd,zaj]
 refine zbk q (by decide) (by decide) fun way h2 w0 w1 x2=> ?_
 simp only [zai,zaj,zfk,List.set,za1,zkn,zeQ,zaK,zaC,pure_bind,bind_assoc,zfd,zrN,zdn]
 by_cases hw:(way==0)=true
 ·rw [qa4 hw]
  simp only [za1,zcd,zch,zfd,zaK,zaC,pure_bind,bind_assoc,zbx,zaP,za7,zoB (show 0<=m by omega) (show m<=1000 by omega),zoL,zbA,zaj]
  have hp:(2:Int)<=2^m.toNat:=by
   have:(2:Int)^1<=2^m.toNat:=zhk (by omega)
   simpa using this
  have hp':(2:Int)^m.toNat<=2^10:=zhk (by omega)
  refine zbk x2.1 (by omega) (by omega) fun t h3 t0 t1 x3=> ?_
  have ed:zaI (zjk (zac (zag 1) zav)) (zaD 0) zb5 zb1 [none,some 3] [some (.cel b),some (.int m),some (.int way),some (.int (1+t)),none,none]=pure (.lst ((zeO 0 m.toNat).filterMap (zpi (1+t)))):=by
   refine zct (by simp [zcI (show 0<=m by omega) (show m<1000 by omega)]) (by rw [zfV];omega) fun x hx=> ?_
   obtain ⟨i,rfl,i0,i1⟩:=zgd hx
   have eb:zas [none,some 3] [some (.cel b),some (.int m),some (.int way),some (.int (1+t)),none,none]=[none,some (D.int (1+t))]:=rfl
   rw [eb]
   simp only [zbl,zcN,List.set,pure_bind,zb5,zeQ,zch,zaK,zaC,zfd,znN i0,zsg,zny,zrN,zdn,zb1,zpi]
   split<;>rfl
  simp only [zai,zaj,zfk,List.set,zdp,pure_bind,zcU,zbx,zaP,za7,bind_assoc,ed,zgD,zrM,zfZ]
  have hm:((m.toNat:Nat):Int)=m:=Int.toNat_of_nonneg (by omega)
  have:=zk9 (bits:=1+t) (m:=m.toNat) (by omega) (by omega)
  rw [hm] at this
  exact k _ _ this.1 this.2 (x2.trans x3)
 ·rw [qa5 hw]
  have hw': ¬way=0:=by simpa using hw
  simp only [zhi,zai,zfk,za1,ziG,zhm,zaP,za7,zbx,zaC,zaK,pure_bind,bind_assoc,zbA,zaj]
  refine zbk x2.1 (by omega) (by omega) fun first h3 f0 f1 x3=> ?_
  simp only [zch,zh8,zaP,za7,zfd,zbx,zaC,zaK,pure_bind,bind_assoc,zbA,zaj,zai]
  refine zbk x3.1 (by decide) (by decide) fun t h4 t0 t1 x4=> ?_
  simp only [zdp,pure_bind,zai,zaj,qaE,qaJ,zay (show 0+1+1<=1000 by decide),zaK,zaC,zoL,zlU,bind_assoc]
  obtain ⟨step,es,s0,s1⟩: ∃ s:Int,atI [D.int 1,D.int (1+t)] (way - 1)=some (.int s)/\1<=s/\s<=3:=by
   by_cases c:way=1
   ·subst c
    exact ⟨1,rfl,by decide,by decide⟩
   ·have c:way=2:=by omega
    subst c
    exact ⟨1+t,rfl,by omega,by omega⟩
  simp only [es,zfg,zai,zaj,zkl,zh2,zcN,List.set,pure_bind,zk2,zfk,zcU,zbx,zaP,za7,zjZ,bind_assoc]
  unfold zaI
  simp only [zgV,zaP,za7,zch,zfd,zbx,zaC,zaK,pure_bind,bind_assoc,zbA,zaj]
  refine zbk x4.1 (by decide) (by decide) fun u h5 u0 u1 x5=> ?_
  have eb:zas [none,some 4,some 5,some 1] [some (.cel b),some (.int m),some (.int way),none,some (.int first),some (.int step)]=[none,some (D.int first),some (.int step),some (.int m)]:=rfl
  have hl:zbY (zbl (zaD 0) (fun _=>pure true) zbV [none,some (D.int first),some (.int step),some (.int m)]) (zeO 0 (1+u).toNat)=pure ((((List.range (1+u).toNat).map fun (k:Nat)=>(first+step*(k:Int)) % m)).map D.int):=by
   rw [zdb]
   rw [zdX (k:=fun d=>match d with | .int j=>some (.int ((first+step*j) % m)) | _=>none)]
   ·congr 1
    rw [List.filterMap_map]
    simp [Function.comp_def]
   ·intro x hx
    obtain ⟨j,_,rfl⟩:=qaU.mp hx
    simp only [zbl,zcN,List.set,pure_bind,if_true,zbV,zch,zaK,zaC,zd8 (show -1000000000000000<step by omega) (show step<1000000000000000 by omega),zdp,zdv (show 0<m by omega)]
  simp only [zdp,pure_bind,zcI (show 0<=1+u by omega) (show 1+u<1000 by omega),zfV,zay (show (1+u).toNat<=1000 by omega),eb,hl,zai,zaj]
  generalize hy:((List.range (1+u).toNat).map fun (k:Nat)=>(first+step*(k:Int)) % m)=ys
  have yl:ys.length=(1+u).toNat:=by rw [<- hy];simp
  have ym: ∀ y∈ys,0<=y/\y<m:=fun y h=>by
   rw [<- hy] at h
   obtain ⟨k,_,rfl⟩:=qaU.mp h
   exact ⟨Int.emod_nonneg _ (by omega),Int.emod_lt_of_pos _ (by omega)⟩
  simp only [zgx (show ys.length<64 by omega),zai,zgD,zfZ,pure_bind,zaj]
  refine k _ _ (zbI.mpr ⟨zd0 ys,fun x hx=>ym x (zcb.mp hx)⟩) (fun z=> ?_) (((x2.trans x3).trans x4).trans x5)
  have z':=List.map_eq_nil_iff.mp z
  have hy0: ∃ y,y∈ys:=List.exists_mem_of_length_pos (by omega)
  obtain ⟨y,hy0⟩:=hy0
  have:=zcb.mpr hy0
  rw [z'] at this
  cases this
def Row (m:Int) (h:Hh) (d:D):Prop:= ∃ (n:Nat) (xs:List Int) (p:Int),d= .cel n/\h[n]? = some (.lst [.tup (xs.map D.int),.int p])/\zdO m 0 (xs.map D.int)=true/\xs≠[]/\0<p
theorem Row.ext {m:Int} {b:Nat} {h h':Hh} {d:D} (q:Bx b h) (x:Ext b h h') (r:Row m h d):Row m h' d:=by
 obtain ⟨n,ts,p,e,e2,r⟩:=r
 have hn:n≠b:=fun z=>by
  subst z
  obtain ⟨y,e3⟩:=q
  rw [e3] at e2
  cases e2
 exact ⟨n,ts,p,e,x.2 n _ hn e2,r⟩
theorem zkj {b:Nat} {m far:Int} (m0:1<=m) (m1:m<=10) (f0:0<far) (f1:far<2^64): ∀ (ds:List D) {h:Hh} {P:List D->Hh->Prop},Bx b h->(∀ rs h',Ext b h h'->rs.length=ds.length->(∀ r∈rs,Row m h' r)->P rs h')->
  wp (zbY (zbl (zaD 0) (fun _=>pure true) zcH [none,some (.cel b),some (.int m),some (.int far)]) ds) h P
 | [],h,P,q,k=>by
  rw [zbY,zai]
  exact k [] h (Ext.refl q) rfl fun r hr=>by cases hr
 | d::r,h,P,q,k=>by
  rw [zbY]
  simp only [zaj,zbl,zcN,List.set,pure_bind,if_true,zcH,zga,zaP,za7,zbx,zaK,zaC,bind_assoc,zbA]
  refine zjO q m0 m1 fun ts h2 hr hne x2=> ?_
  simp only [zaj,zch,zfd,zbx,zaP,za7,zaK,zaC,pure_bind,bind_assoc,zbA]
  refine zbk x2.1 f0 f1 fun t h3 t0 t1 x3=> ?_
  simp only [zdp,pure_bind,zai,zaj,qaE,qaJ,zay (show 0+1+1<=1000 by decide),zgo]
  have x4:=x3.1.push (c:= .lst [.tup ts,.int (1+t)])
  obtain ⟨xs,rfl⟩:=zhD (zfH hr)
  refine zkj m0 m1 f0 f1 r x4.1 fun rs h' x5 hl hr'=> ?_
  refine k (.cel h3.length::rs) h' (((x2.trans x3).trans x4).trans x5) (by simp [hl]) fun y hy=> ?_
  rcases qaP.mp hy with rfl | hy
  ·exact Row.ext x4.1 x5 ⟨h3.length,xs,1+t,rfl,by simp,hr,fun z=>hne (by rw [z];rfl),by omega⟩
  ·exact hr' y hy
noncomputable def znh (h:Hh) (i:Int) (d:D):Bool:=match d with
 | .cel n=>match h[n]? with
  | some (.lst (.tup ts::_))=>match zcP ts with
   | some xs=>xs.any (· == i)
   | none=>false
  | _=>false
 | _=>false
noncomputable def zi6 (h:Hh) (d:D):D:=match d with
 | .cel n=>match h[n]? with
  | some (.lst ds)=> .tup ds
  | _=> .non
 | _=> .non
theorem zmX {m:Int} {h:Hh}: ∀ {rs:List D},(∀ r∈rs,Row m h r)-> ∃ ps,zjp h rs=some ps/\PyData.canLayAll0 ps=true/\ps.length=rs.length
 | [],_=>⟨[],rfl,rfl,rfl⟩
 | d::r,hr=>by
  obtain ⟨n,xs,p,rfl,e,_⟩:=hr d qau
  obtain ⟨ps,e1,e2,e3⟩:=zmX fun y hy=>hr y (qan _ hy)
  refine ⟨.list [.tuple (xs.map .int),.int p]::ps,?_,?_,by simp [e3]⟩
  ·simp only [zjp,pdH,e,pdL,pd,zcK,Option.map,e1]
  ·simp [PyData.canLayAll0,PyData.canLay0,zaY,e2]
theorem zoS {m:Int} {h:Hh} {rs:List D} {P:D->Hh->Prop} (hr: ∀ r∈rs,Row m h r) (q:P (.bl rs.isEmpty) h):wp (zqh (.lst rs) (.lst [])) h P:=by
 obtain ⟨ps,e1,e2,e3⟩:=zmX hr
 refine ⟨.bl rs.isEmpty,h,?_,q⟩
 unfold zqh
 have a1:pdH h (.lst rs)=some (.list ps):=by simp only [pdH,e1,Option.map]
 have a2:pdH h (.lst [])=some (.list []):=by simp only [pdH,zjp,Option.map]
 rw [a1,a2]
 have c:zfM (.list ps) (.list [])=true:=by
  unfold zfM
  simp [PyData.canLay0,PyData.canLayAll0,e2,PyData.depth,PyData.depthAll]
 simp only [c,if_true]
 cases ps with
 | nil=>
  cases rs with
  | nil=>rfl
  | cons _ _=>cases e3
 | cons _ _=>
  cases rs with
  | nil=>cases e3
  | cons _ _=>rfl
def Cov (rows:List D) (h:Hh) (j:Int):Prop:= ∃ r∈rows, ∃ (n:Nat) (xs:List Int) (p:Int),r= .cel n/\h[n]? = some (.lst [.tup (xs.map D.int),.int p])/\j∈xs
theorem Cov.ext {b:Nat} {rows:List D} {h h':Hh} {j:Int} (q:Bx b h) (x:Ext b h h') (r:Cov rows h j):Cov rows h' j:=by
 obtain ⟨d,hd,n,ts,p,e,e2,r⟩:=r
 have hn:n≠b:=fun z=>by
  subst z
  obtain ⟨y,e3⟩:=q
  rw [e3] at e2
  cases e2
 exact ⟨d,hd,n,ts,p,e,x.2 n _ hn e2,r⟩
theorem zg4 {b:Nat} {m far:Int} {s1 s2:Option D} {rows:List D} (m0:1<=m) (m1:m<=10) (hne:rows≠[]) (hl:rows.length<=12): ∀ (ds:List D) (dn:List Int) {h:Hh} {x6 x7:Option D} {P:Out->Hh->Prop},Bx b h->(∀ d∈ds, ∃ i:Int,d= .int i/\0<=i/\i<m)->(∀ r∈rows,Row m h r)->(∀ j∈dn,Cov rows h j)->
  (∀ x6' x7' h',Bx b h'->(∀ r∈rows,Row m h' r)->(∀ j,j∈dn\/D.int j∈ds->Cov rows h' j)->P (.nx [some (.cel b),s1,s2,some (.int m),some (.int far),some (.lst rows),x6',x7']) h')->
  wp (zaL (fun x sd=>do let sd1<-zaD 6 x sd;zbp sd1) ds [some (.cel b),s1,s2,some (.int m),some (.int far),some (.lst rows),x6,x7]) h P
 | [],dn,h,x6,x7,P,q,_,hr,hc,k=>by
  rw [zbS,zai]
  exact k _ _ h q hr fun j hj=>hc j (hj.elim id fun z=>by cases z)
 | d::r,dn,h,x6,x7,P,q,hd,hr,hc,k=>by
  obtain ⟨i,rfl,i0,i1⟩:=hd _ qau
  have hd':=fun y hy=>hd y (qan _ hy)
  have ih: ∀ {h:Hh} {x6 x7:Option D},Bx b h->(∀ r∈rows,Row m h r)->(∀ j∈i::dn,Cov rows h j)->wp (zaL (fun x sd=>do let sd1<-zaD 6 x sd;zbp sd1) r [some (.cel b),s1,s2,some (.int m),some (.int far),some (.lst rows),x6,x7]) h P:=fun q hr hc=>zg4 m0 m1 hne hl r (i::dn) q hd' hr hc fun x6' x7' h' q' hr' hc'=>k x6' x7' h' q' hr' fun j hj=>hc' j (by
    rcases hj with hj | hj
    · exact .inl (qan _ hj)
    · rcases qaP.mp hj with z | z
      · cases z;exact .inl qau
      · exact .inr z)
  rw [zbr]
  generalize zaL (fun x sd=>do let sd1<-zaD 6 x sd;zbp sd1) r=rest at ih ⊢
  simp only [zcN,List.set,pure_bind,zbp,zkn,zeQ,zaj]
  refine zjm (k:=fun d=>if znh h i d=true then some d else none) (ds:=rows) (by simp) (by omega) (fun x hx=> ?_) ?_
  ·obtain ⟨n,xs,p,rfl,e,_⟩:=hr x hx
   have eb:zas [none,some 6] [some (.cel b),s1,s2,some (.int m),some (.int far),some (.lst rows),some (.int i),x7]=[none,some (D.int i)]:=rfl
   rw [eb]
   simp only [zbl,zcN,List.set,pure_bind,zdR,zeQ,zaK,zaC,zch,zfd,zlX,bind_assoc,zaj,zbN e,zkQ,zfg,zai,zl4,zdn,zdN,znh,e,zbf]
   rw [zlg]
   split
   ·simp_all [zai,zaC,zaj]
   ·simp_all [zai]
  ·simp only [zh8,za7,pure_bind,qaJ,zay (show 0<=1000 by decide),zaj,zai]
   refine zoS (m:=m) (fun y hy=> ?_) ?_
   ·obtain ⟨z,hz,ez⟩:=List.mem_filterMap.mp hy
    split at ez
    ·cases ez;exact hr _ hz
    ·cases ez
   simp only [zdn,zai]
   rw [zlg]
   split
   ·rename_i c
    have none_has: ∀ y∈rows,znh h i y=false:=fun y hy=>by
     cases z:znh h i y with
     | false=>rfl
     | true=>
      have:y∈rows.filterMap fun d=>if znh h i d=true then some d else none:=List.mem_filterMap.mpr ⟨y,hy,by rw [z];rfl⟩
      rw [List.isEmpty_iff.mp c] at this
      cases this
    have hpos:0<rows.length:=List.length_pos_iff.mpr hne
    simp only [za1,zcd,zch,zaK,zaC,pure_bind,bind_assoc,zbx,zaP,za7,zm0,zbA,zaj]
    refine zbk q (by omega) (by omega) fun t h2 t0 t1 x2=> ?_
    have ht:t.toNat<rows.length:=by omega
    have ea:atI rows t=some rows[t.toNat]:=by
     have:=zfC (xs:=rows) (j:=t.toNat) (v:=rows[t.toNat]) (by simp [ht])
     rw [<- this]
     congr 1
     omega
    have hrow:=hr rows[t.toNat] (List.getElem_mem ht)
    have hno:=none_has rows[t.toNat] (List.getElem_mem ht)
    have hmem:rows[t.toNat]∈rows:=List.getElem_mem ht
    generalize rows[t.toNat]=row at ea hrow hno hmem
    obtain ⟨n,xs,p,rfl,e,hrs,hx0,hp0⟩:=hrow
    have hni:i∉xs:=fun z=>by
     simp only [znh,e,zbf] at hno
     have:xs.any (· == i)=true:=List.any_eq_true.mpr ⟨i,z,by simp⟩
     rw [this] at hno
     cases hno
    have hnb:n≠b:=fun z=>by
     subst z
     obtain ⟨y,e3⟩:=q
     rw [e3] at e
     cases e
    have e2:=x2.2 n _ hnb e
    obtain ⟨hpw,hbd⟩:=zbI.mp hrs
    have hxl:(xs.length:Int)<=m:=by have:=zep hrs (by omega);simpa using this
    have esn:((xs.map D.int)++[D.int i])=(xs++[i]).map D.int:=by simp
    simp only [zlU,ea,zfg,zai,zfk,List.set,ziG,zbx,zaP,za7,zch,zaK,zaC,zfd,pure_bind,bind_assoc,zlX,zaj,zbN e2,zkQ,zhm,qaE,qaJ,zay (show 0+1<=1000 by decide),zmJ,qaH,
      zay (show xs.length+(0+1)<=1000 by omega),esn,zi0 (show (xs++[i]).length<64 by simp;omega),zgD,zkJ,zmV]
    have e3:ixN (0+1+1) 0=some 0:=rfl
    simp only [zaj,zbN e2,qaE,qaJ,e3,zfg,zai,zfa,List.set]
    have hlt:n<h2.length:=(qac.mp e2).1
    refine ih ?_ ?_ ?_
    ·obtain ⟨y,ey⟩:=x2.1
     exact ⟨y,by rw [qao hnb];exact ey⟩
    ·intro y hy
     obtain ⟨n',xs',p',rfl,e',r1,r2,r3⟩:=Row.ext q x2 (hr y hy)
     by_cases hnn:n'=n
     ·subst hnn
      refine ⟨n',zbD (xs++[i]),p,rfl,qai hlt,zbI.mpr ⟨zoH hpw hni,fun z hz=> ?_⟩,fun z=> ?_,hp0⟩
      ·have:=(zax (xs++[i])).mem_iff.mp hz
       rcases qaK.mp this with w | w
       ·exact hbd z w
       ·simp at w;omega
      ·have:=(zax (xs++[i])).length_eq
       rw [z] at this
       simp at this
     ·exact ⟨n',xs',p',rfl,by rw [qao (Ne.symm hnn)];exact e',r1,r2,r3⟩
    ·intro j hj
     rcases qaP.mp hj with rfl | hj
     ·exact ⟨.cel n,hmem,n,zbD (xs++[j]),p,rfl,qai hlt,(zax (xs++[j])).mem_iff.mpr (by simp)⟩
     ·obtain ⟨y,hy,n',xs',p',rfl,e',hj'⟩:=Cov.ext q x2 (hc j hj)
      by_cases hnn:n'=n
      ·subst hnn
       rw [e2] at e'
       have exs:xs=xs':=by
        have z:xs.map D.int=xs'.map D.int:=by injection (Option.some.inj e') with z;simpa using (List.cons.inj z).1
        exact (List.map_inj_right fun a b h=>by injection h).mp z
       subst exs
       exact ⟨_,hy,n',zbD (xs++[i]),p,rfl,qai hlt,(zax (xs++[i])).mem_iff.mpr (List.mem_append_left _ hj')⟩
      ·exact ⟨_,hy,n',xs',p',rfl,by rw [qao (Ne.symm hnn)];exact e',hj'⟩
   ·rename_i c
    simp only [zhi,zai]
    refine ih q hr fun j hj=> ?_
    rcases qaP.mp hj with rfl | hj
    ·obtain ⟨y,hy⟩:=List.exists_mem_of_ne_nil (rows.filterMap fun d=>if znh h j d=true then some d else none) (fun z=>c (by rw [z];rfl))
     obtain ⟨z,hz,ez⟩:=List.mem_filterMap.mp hy
     split at ez
     ·rename_i c2
      obtain ⟨n,xs,p,rfl,e,_⟩:=hr z hz
      simp only [znh,e,zbf] at c2
      obtain ⟨k,hk,ek⟩:=List.any_eq_true.mp c2
      exact ⟨_,hz,n,xs,p,rfl,e,(show k=j by simpa using ek)▸hk⟩
     ·cases ez
    ·exact hc j hj
theorem znP {h:Hh} {b:Nat} {lots:Int} {P:D->Hh->Prop} (z0:1<=lots) (z1:lots<=12) (q:Bx b h) (k: ∀ (m:Int) (os:List D) h',Bx b h'->1<=m->m<=10->1<=os.length->os.length<=12->(∀ o∈os,zgL m o=true)->(∀ i:Int,0<=i->i<m-> ∃ o∈os, ∃ (xs:List Int) (p:Int),o= .tup [.tup (xs.map D.int),.int p]/\i∈xs)->P (.tup [.int m,.tup os]) h'):wp (F_34 [.cel b,.int 10,.int lots]) h P:=by
 rw [d_34]
 simp only [G_34,za1,zcd,zch,zfd,zbx,zaP,za7,zaC,zaK,pure_bind,bind_assoc,zbA,zaj]
 refine zbk q (by decide) (by decide) fun t h2 t0 t1 x2=> ?_
 simp only [zdp,pure_bind,zai,zfk,List.set,za1,zcd,zch,zh8,zaP,za7,zfd,znR,bind_assoc,zaj,qaE,qaJ,zay (show 0+1+1+1+1<=1000 by decide),zbx,zaC,zaK,zbA]
 refine zbk x2.1 (by decide) (by decide) fun f h3 f0 f1 x3=> ?_
 obtain ⟨far,ef,g0,g1⟩: ∃ far:Int,atI [D.int 3,.int 9,.int 50,.int 1000000000000] f=some (.int far)/\0<far/\far<2^64:=by
  have:f=0\/f=1\/f=2\/f=3:=by omega
  rcases this with rfl | rfl | rfl | rfl
  ·exact ⟨3,rfl,by decide,by decide⟩
  ·exact ⟨9,rfl,by decide,by decide⟩
  ·exact ⟨50,rfl,by decide,by decide⟩
  ·exact ⟨1000000000000,rfl,by decide,by decide⟩
 simp only [zlU,ef,zfg,zai,zfk,List.set,za1,zcd,zaj]
 unfold zaI
 simp only [zgV,zaP,za7,zch,zfd,zbx,zaC,zaK,pure_bind,bind_assoc,zbA,zaj]
 refine zbk x3.1 (by omega) (by omega) fun u h4 u0 u1 x4=> ?_
 have eb:zas [none,some 0,some 3,some 4] [some (.cel b),some (.int 10),some (.int lots),some (.int (1+t)),some (.int far),none,none,none]=[none,some (D.cel b),some (.int (1+t)),some (.int far)]:=rfl
 simp only [zdp,pure_bind,zcI (show 0<=1+u by omega) (show 1+u<1000 by omega),zfV,zay (show (1+u).toNat<=1000 by omega),eb,zaj,zai]
 refine zkj (by omega) (by omega) g0 g1 _ x4.1 fun rows h5 x5 hl hr=> ?_
 rw [zfV] at hl
 simp only [zai,zfk,List.set,za1,zfo,zgV,zaP,za7,zaK,zaC,pure_bind,zcI (show 0<=1+t by omega) (show 1+t<1000 by omega),zaj]
 refine zg4 (by omega) (by omega) (fun z=>by rw [z] at hl;simp at hl;omega) (by omega) _ [] x5.1 (fun d hd=> ?_) hr (fun j hj=>by cases hj) fun x6 x7 h6 q6 hr6 hc6=> ?_
 ·obtain ⟨i,e,i0,i1⟩:=zgd hd
  exact ⟨i,e,i0,by omega⟩
 simp only [zfk,zcU,zhm,zaP,za7,zaK,zaC,pure_bind,bind_assoc,zbx,zaj]
 have eb6:zas [none] [some (.cel b),some (.int 10),some (.int lots),some (.int (1+t)),some (.int far),some (.lst rows),x6,x7]=[none]:=rfl
 simp only [zox,zaK,zaC,pure_bind,zot,zai,zay (show rows.length<=1000 by omega),eb6]
 refine zdc (k:=fun d=>some (zi6 h6 d)) (fun x hx=> ?_) ?_
 ·obtain ⟨n,xs,p,rfl,e,_⟩:=hr6 x hx
  simp only [zbl,zcN,List.set,pure_bind,if_true,zdK,zhm,zaP,za7,zch,zaC,zfd,zlX,bind_assoc,zaj,zbN e,zkQ,zqz,zfg,zai,qaE,qaJ,zay (show 0+1+1<=1000 by decide),zi6,e]
  exact ⟨trivial,trivial⟩
 ·simp only [zgD,zai,pure_bind,qaE,qaJ,zay (show 0+1+1<=1000 by decide),zfZ,zaj]
  have em:(rows.filterMap fun d=>some (zi6 h6 d))=rows.map (zi6 h6):=by simp
  rw [em]
  refine k (1+t) _ h6 q6 (by omega) (by omega) (by simp;omega) (by simp;omega) (fun o ho=> ?_) fun i i0 i1=> ?_
  rotate_left
  ·obtain ⟨r,hr',n,xs,p,rfl,e,hi⟩:=hc6 i (.inr (by rw [zdb,qaU];exact ⟨i,qaU.mpr ⟨i.toNat,List.mem_range.mpr (by omega),by omega⟩,rfl⟩))
   exact ⟨_,qaU.mpr ⟨_,hr',rfl⟩,xs,p,by simp only [zi6,e],hi⟩
  obtain ⟨r,hr',rfl⟩:=qaU.mp ho
  obtain ⟨n,xs,p,rfl,e,r1,r2,r3⟩:=hr6 r hr'
  have hx:0<(xs.length:Int):=by
   have:=List.length_pos_iff.mpr r2
   omega
  simp only [zi6,e,zgL,r1,qaH]
  simp [hx,r3]
  exact List.length_pos_iff.mpr r2
theorem ziO {n:Nat} {s0:Option D}: ∀ (os:List (List Int×Int)) {h:Hh} {xs:List Int} {x2:Option D} {P:Out->Hh->Prop},h[n]? = some (.lst (xs.map D.int))->xs.length+(os.flatMap (·.1)).length<=1000->
  (∀ x2' h',(∀ k,k≠n->h'[k]? = h[k]?)->h'.length=h.length->h'[n]? = some (.lst ((xs++os.flatMap (·.1)).map D.int))->P (.nx [s0,some (.cel n),x2']) h')->
  wp (zaL (fun x sd=>do let sd1<-zaD 2 x sd;za4 sd1) (os.map zbT) [s0,some (.cel n),x2]) h P
 | [],h,xs,x2,P,e,_,k=>by
  rw [List.map_nil,zbS,zai]
  exact k x2 h (fun _ _=>rfl) rfl (by simpa using e)
 | o::os,h,xs,x2,P,e,hl,k=>by
  have hln:=(qac.mp e).1
  rw [List.flatMap_cons,qav] at hl
  have ih:=fun (x2':Option D)=>ziO (s0:=s0) (n:=n) os (h:=h.set n (.lst ((xs++o.1).map D.int))) (xs:=xs++o.1) (x2:=x2') (P:=P) (qai hln) (by rw [qav];omega) fun x2'' h' h1 h2 h3=>k x2'' h' (fun j hj=>(h1 j hj).trans (qao (Ne.symm hj))) (h2.trans (qaI ..)) (by rw [h3,List.flatMap_cons,List.append_assoc])
  rw [qaM,zbr]
  generalize zaL (fun x sd=>do let sd1<-zaD 2 x sd;za4 sd1) (os.map zbT)=rest at ih ⊢
  have f:=zay (show (xs.map D.int).length+(o.1.map D.int).length<=1000 by rw [qaH,qaH];omega)
  simp only [qaH] at f
  simp only [za4]
  ac_nf0
  simp only [zaj,zbN e,zai,qaH,f,zfa, <-List.map_append]
  exact ih _
theorem zpn {d:D} {os:List (List Int×Int)} {m:Int} (hd:zeA d=pure (os.map zbT)) (m0:0<=m) (m1:m<=60) (hl:(os.flatMap (·.1)).length<=1000) (b: ∀ o∈os, ∀ x∈o.1,0<=x/\x<m):Ev (F_19 [d]) (tI (zei (os.flatMap (·.1)))):=by
 refine .of_wp fun h=> ?_
 rw [d_19]
 simp only [G_19]
 ac_nf0
 simp only [hd,zai]
 refine ziO os (xs:=[]) (by simp) (by simpa using hl) fun x2 h' h1 h2 h3=> ?_
 ac_nf0
 have bb: ∀ x∈os.flatMap (·.1),0<=x/\x<m:=fun x hx=>by
  obtain ⟨o,ho,hx⟩:=List.mem_flatMap.mp hx
  exact b o ho x hx
 refine zhj (by simpa using h3) (zhL m0 m1 bb) (by omega) ?_
 ac_nf0
 refine ⟨trivial,⟨[.lst ((os.flatMap (·.1)).map D.int)],List.ext_getElem? fun j=> ?_⟩⟩
 by_cases hj:j=h.length
 ·subst hj
  rw [h3]
  simp
 ·rw [h1 j hj]
  by_cases hlt:j<h.length
  ·rw [qad hlt,qad hlt]
  ·rw [List.getElem?_eq_none (by simp;omega),List.getElem?_eq_none (by simp;omega)]
theorem zl5 {os:List (List Int×Int)} {n:Nat} (h: ∀ o∈os,o.1.length<=n):(os.flatMap (·.1)).length<=os.length*n:=by
 induction os with
 | nil=>simp
 | cons o r ih=>
  rw [List.flatMap_cons,qav,qaE,Nat.succ_mul]
  have a1:=h o qau
  have a2:=ih fun x hx=>h x (qan _ hx)
  omega
theorem zpK (s:Stk m os) {d:D} {os':List (List Int×Int)} (hd:zeA d=pure (os'.map zbT)) (hl:os'.length<=12) (hs: ∀ o∈os',o∈os):Ev (F_20 [zbu m os,d]) (.bl (((zei (os'.flatMap (·.1))).length:Int)==m)):=by
 have tg:=zpn hd (m:=m) (by have:=s.m0;omega) (by have:=s.m1;omega) (by have:=zl5 (os:=os') (n:=10) fun o ho=>s.olen o (hs o ho);omega) fun o ho=>s.bd o (hs o ho)
 refine .of_wp fun h=> ?_
 rw [d_20]
 simp only [G_20,zbu]
 ac_nf0
 refine tg.wp fun h' g=> ?_
 ac_nf0
 rw [zrN]
 ac_nf0
 exact ⟨trivial,g⟩
theorem ziv (s:Stk m os) {s1:Option D}: ∀ (ls fs:List Int) (x3:Option D),(∀ x∈ls,0<=x/\x<os.length)->fs.Nodup->(∀ x∈fs,0<=x/\x<m)->
  ∃ (gs:List Int) (x3':Option D),zaL (fun x sd=>do let sd1<-zaD 3 x sd;zcX sd1) (ls.map D.int) [some (zbu m os),s1,some (.lst (fs.map D.int)),x3]=pure (.nx [some (zbu m os),s1,some (.lst (gs.map D.int)),x3'])/\gs.Nodup/\(∀ x∈gs,0<=x/\x<m)/\ ∀ k,k∈gs↔k∈fs\/k∈(zfS os ls).flatMap (·.1)
 | [],fs,x3,_,hn,hb=>⟨fs,x3,rfl,hn,hb,fun k=>by simp [zfS]⟩
 | i::r,fs,x3,hl,hn,hb=>by
  have hi:=hl i qau
  have ho:os.getD i.toNat ([],0)∈os:=by
   have h1:i.toNat<os.length:=by omega
   simp [List.getD,h1]
  generalize eo:os.getD i.toNat ([],0)=o at ho
  have m0:=s.m0
  have m1:=s.m1
  have hnew:(fs++o.1.filter fun t=> !fs.any (· == t)).Nodup:=by
   rw [List.nodup_append]
   refine ⟨hn,((s.up o ho).imp fun z=>by omega).filter _,fun a ha b hb e=> ?_⟩
   subst e
   have:=(List.mem_filter.mp hb).2
   simp at this
   exact this a ha rfl
  have hbn: ∀ x∈fs++o.1.filter fun t=> !fs.any (· == t),0<=x/\x<m:=fun x hx=>(qaK.mp hx).elim (hb x) fun z=>s.bd o ho x (List.mem_filter.mp z).1
  obtain ⟨gs,y3,ih,g1,g2,g3⟩:=ziv s r (fs++o.1.filter fun t=> !fs.any (· == t)) (some (.int i)) (fun x hx=>hl x (qan _ hx)) hnew hbn
  refine ⟨gs,y3,?_,g1,g2,fun k=> ?_⟩
  ·rw [qaM,zbr, <-ih]
   have ec:zaI (iSq (cOp dIx (cOp dIx (cOp dIx (zag 0) (cK (.int 1))) (zag 3)) (cK (.int 0)))) (zaD 0) zcY zcW [none,some 2] [some (zbu m os),s1,some (.lst (fs.map D.int)),some (.int i)]=pure (.lst ((o.1.filter fun t=> !fs.any (· == t)).map D.int)):=by
    rw [<- zco (k:=fun d=>match d with | .int t=>if (!fs.any (· == t))=true then some (.int t) else none | d=>none) fun _=>rfl]
    refine zct ?_ (by rw [qaH];have:=s.olen o ho;omega) ?_
    ·simp only [zbu]
     ac_nf0
     rw [zeV hi.1 hi.2,eo]
     ac_nf0
    ·intro x hx
     obtain ⟨t,_,rfl⟩:=qaU.mp hx
     have eb:zas [none,some 2] [some (zbu m os),s1,some (.lst (fs.map D.int)),some (.int i)]=[none,some (.lst (fs.map D.int))]:=rfl
     rw [eb]
     simp only [zbl,zcY,zcW]
     ac_nf0
     rw [zhG]
     ac_nf0
     split<;>rfl
   simp only [zcX]
   ac_nf0
   rw [ec]
   have f1:=zb3 (by omega) hnew hbn
   rw [qav] at f1
   have f:=zay (show fs.length+(o.1.filter fun t=> !fs.any (· == t)).length<=1000 by omega)
   ac_nf0
   simp only [zm7,qaH,f]
   ac_nf0
   rw [List.map_append]
  ·rw [g3 k]
   have eo2:zfS os (i::r)=o::zfS os r:=by unfold zfS;rw [qaM,eo]
   rw [eo2,List.flatMap_cons,qaK,qaK,List.mem_filter]
   constructor
   ·rintro ((h | h) | h)
    ·exact .inl h
    ·exact .inr (.inl h.1)
    ·exact .inr (.inr h)
   ·rintro (h | h | h)
    ·exact .inl (.inl h)
    ·by_cases c:k∈fs
     ·exact .inl (.inl c)
     ·exact .inl (.inr ⟨h,by simp;exact fun x hx e=>c (e▸hx)⟩)
    ·exact .inr h
theorem zq8 (s:Stk m os) {ls:List Int} (b: ∀ x∈ls,0<=x/\x<os.length):F_36 [zbu m os,tI ls]=pure (tI (zei ((zfS os ls).flatMap (·.1)))):=by
 obtain ⟨gs,x3,el,g1,g2,g3⟩:=ziv s (s1:=some (tI ls)) ls [] none b .nil (fun x hx=>by cases hx)
 have:=s.m0
 have:=s.m1
 have hl:=zb3 (by omega) g1 g2
 rw [d_36]
 simp only [G_36]
 unfold tI at el
 simp only [List.map_nil,zcN,pure_bind] at el
 ac_nf0
 rw [el]
 ac_nf0
 rw [zhr (by omega)]
 ac_nf0
 have e3: ∀ k,k∈gs↔k∈(zfS os ls).flatMap (·.1):=fun k=>by rw [g3 k];simp
 rw [zhE g1 e3]
theorem zkG {m:Int} {o:D} (h:zgL m o=true): ∃ (xs:List Int) (p:Int),o=zbT (xs,p)/\(xs.Pairwise (· < ·)/\ ∀ x∈xs,0<=x/\x<m)/\xs≠[]/\0<p:=by
 unfold zgL at h
 split at h
 ·rename_i ts p
  simp only [qaG,qaD] at h
  obtain ⟨⟨h1,h2⟩,h3⟩:=h
  obtain ⟨xs,rfl⟩:=zhD (zfH h1)
  exact ⟨xs,p,rfl,zbI.mp h1,fun z=>by rw [z] at h2;simp at h2,h3⟩
 ·cases h
theorem zno {m:Int} (m0:1<=m) (m1:m<=10): ∀ {ds:List D},ds.length<=12->(∀ o∈ds,zgL m o=true)-> ∃ os,ds=os.map zbT/\Stk m os
 | [],_,_=>⟨[],rfl,⟨m0,m1,by simp,by simp,by simp,by simp,by simp⟩⟩
 | d::r,hl,h=>by
  obtain ⟨os,e,s⟩:=zno m0 m1 (ds:=r) (by simp at hl;omega) fun o ho=>h o (qan _ ho)
  obtain ⟨xs,p,e1,⟨h1,h2⟩,h3,h4⟩:=zkG (h d qau)
  have hlen:((xs,p)::os).length<=12:=by rw [e] at hl;simpa using hl
  refine ⟨(xs,p)::os,by rw [qaM,e,e1],⟨m0,m1,hlen,?_,?_,?_,?_⟩⟩
  ·intro o ho
   rcases qaP.mp ho with rfl | ho
   ·exact h1
   ·exact s.up o ho
  ·intro o ho
   rcases qaP.mp ho with rfl | ho
   ·exact h2
   ·exact s.bd o ho
  ·intro o ho
   rcases qaP.mp ho with rfl | ho
   ·exact h3
   ·exact s.ne o ho
  ·intro o ho
   rcases qaP.mp ho with rfl | ho
   ·exact h4
   ·exact s.pos o ho
theorem zl8 {m:Int} {os:List (List Int×Int)} (s:Stk m os) {h:Hh} {b:Nat} {P:D->Hh->Prop} (q:Bx b h) (k: ∀ os' h',Stk m os'->(∃ t:Int,0<=t/\t<m/\ ∀ o∈os',t∉o.1)->Ext b h h'->P (zbu m os') h'):wp (F_35 [.cel b,zbu m os]) h P:=by
 have m0:=s.m0
 have m1:=s.m1
 have hl:=s.len
 rw [d_35]
 simp only [G_35,zbu]
 ac_nf0
 refine zbk q (by omega) (by omega) fun t h2 t0 t1 x2=> ?_
 ac_nf0
 have e1:zaI (iSq (zag 3)) (zbO 2 (zaw (zaD 0) (zaw (zaD 1) zbR))) (fun _=>pure true) zck [none,none,some 4] [some (.cel b),some (.tup [.int m,.tup (os.map zbT)]),some (.int m),some (.tup (os.map zbT)),some (.int t),none]
   = pure (.lst ((os.map fun o=>(o.1.filter fun x=> !(x==t),o.2)).map zbT)):=by
  rw [zj9 (ds:=os.map zbT) (k:=fun d=>match d with | .tup [.tup ts,p]=> .tup [.tup (ts.filter fun d=>match d with | .int x=> !(x==t) | _=>true),p] | d=>d) (by ac_nf0) (by rw [qaH];omega) ?_]
  ·rw [qaT,qaT]
   congr 2
   refine List.map_congr_left fun o _=> ?_
   simp only [Function.comp,zbT,tI]
   congr 2
   rw [List.filter_map]
   rfl
  ·intro x hx
   obtain ⟨o,ho,rfl⟩:=qaU.mp hx
   have eb:zas [none,none,some 4] [some (.cel b),some (.tup [.int m,.tup (os.map zbT)]),some (.int m),some (.tup (os.map zbT)),some (.int t),none]=[none,none,some (.int t)]:=rfl
   rw [eb]
   simp only [zbl,zck]
   ac_nf0
   have e2:zaI (iSq (zag 0)) (zaD 0) zcm zcr [none,some 2] [some (.tup (o.1.map D.int)),some (.int o.2),some (.int t)]=pure (.lst ((o.1.filter fun x=> !(x==t)).map D.int)):=by
    rw [<- zco (k:=fun d=>match d with | .int x=>if (!(x==t))=true then some (.int x) else none | d=>none) fun _=>rfl]
    refine zct (by ac_nf0) (by rw [qaH];have:=s.olen o ho;omega) fun x hx=> ?_
    obtain ⟨i,_,rfl⟩:=qaU.mp hx
    have eb:zas [none,some 2] [some (.tup (o.1.map D.int)),some (.int o.2),some (.int t)]=[none,some (.int t)]:=rfl
    rw [eb]
    simp only [zbl,zcm,zcr]
    ac_nf0
    rw [zti]
    ac_nf0
    split<;>rfl
   simp only [if_true,e2]
   ac_nf0
   congr 3
   rw [List.filter_map]
   rfl
 rw [e1]
 ac_nf0
 generalize hos:(os.map fun o=>(o.1.filter fun x=> !(x==t),o.2))=os1
 have e3:zaI (iSq (zag 5)) (zaD 0) zcj zcn [none] [some (.cel b),some (.tup [.int m,.tup (os.map zbT)]),some (.int m),some (.tup (os.map zbT)),some (.int t),some (.lst (os1.map zbT))]
   = pure (.lst ((os1.filter fun o=> !o.1.isEmpty).map zbT)):=by
  have e4:(os1.map zbT).filterMap (fun d=>match d with | .tup [.tup ts,p]=>if (!ts.isEmpty)=true then some (.tup [.tup ts,p]) else none | d=>none)=(os1.filter fun o=> !o.1.isEmpty).map zbT:=by
   clear hos e1
   induction os1 with
   | nil=>rfl
   | cons o r ih=>
    rw [qaM,qat,ih,List.filter_cons]
    simp only [zbT,tI]
    obtain ⟨ts,p⟩:=o
    cases ts<;>simp [zbT,tI]
  rw [<- e4]
  refine zct (by ac_nf0) (by rw [qaH, <-hos,qaH];omega) fun x hx=> ?_
  obtain ⟨o,_,rfl⟩:=qaU.mp hx
  have eb: ∀ sd,zas [none] sd=[none]:=fun _=>rfl
  rw [eb]
  simp only [zbl,zcj,zcn]
  ac_nf0
  have e5:=zmB o.1
  unfold tI at e5
  rw [e5]
  ac_nf0
  simp only [List.isEmpty_map]
  split<;>rfl
 rw [e3]
 ac_nf0
 suffices hS:Stk m (os1.filter fun o=> !o.1.isEmpty)/\ ∃ t:Int,0<=t/\t<m/\ ∀ o∈os1.filter fun o=> !o.1.isEmpty,t∉o.1 from k _ h2 hS.1 hS.2 x2
 have hm: ∀ o∈os1.filter fun o=> !o.1.isEmpty, ∃ o'∈os,o=(o'.1.filter fun x=> !(x==t),o'.2)/\o.1≠[]:=fun o ho=>by
  obtain ⟨h1,h2⟩:=List.mem_filter.mp ho
  rw [<- hos] at h1
  obtain ⟨o',h3,rfl⟩:=qaU.mp h1
  exact ⟨o',h3,rfl,by intro e;rw [e] at h2;simp at h2⟩
 refine ⟨?_,t,t0,t1,fun o ho=> ?_⟩
 rotate_left
 ·obtain ⟨o',h1,rfl,_⟩:=hm o ho
  intro z
  simpa using (List.mem_filter.mp z).2
 refine ⟨m0,m1,?_,fun o ho=> ?_,fun o ho=> ?_,fun o ho=> ?_,fun o ho=> ?_⟩
 ·have:=List.length_filter_le (fun o:List Int×Int=> !o.1.isEmpty) os1
  rw [<- hos,qaH] at this
  rw [<- hos]
  omega
 ·obtain ⟨o',h1,rfl,_⟩:=hm o ho
  exact (s.up o' h1).filter _
 ·obtain ⟨o',h1,rfl,_⟩:=hm o ho
  exact fun x hx=>s.bd o' h1 x (List.mem_filter.mp hx).1
 ·exact (hm o ho).choose_spec.2.2
 ·obtain ⟨o',h1,rfl,_⟩:=hm o ho
  exact s.pos o' h1
theorem zmR:dIx (zbu m os) (.int 1)=pure (.tup (os.map zbT)):=rfl
theorem zsr:dIx (zbu m os) (.int 0)=pure (.int m):=rfl
theorem zeu (a b:Nat):Nat.gcd a b=Nat.gcd b (a % b):=by rw [Nat.gcd_comm a b,Nat.gcd_rec b a,Nat.gcd_comm]
theorem zla {s0 s1:Option D} {n a:Nat} {x4:Option D}:zbE zal zao (n+1) [s0,s1,some (.int (a:Int)),some (.int ((0:Nat):Int)),x4]=pure (.nx [s0,s1,some (.int (a:Int)),some (.int 0),x4]):=by
 rw [zcR]
 simp only [zal]
 ac_nf0
 rfl
theorem zkw {s0 s1:Option D} {n a b:Nat} {x4:Option D} (hb:b≠0):zbE zal zao (n+1) [s0,s1,some (.int (a:Int)),some (.int (b:Int)),x4]=zbE zal zao n [s0,s1,some (.int (b:Int)),some (.int ((a % b:Nat):Int)),some (.int ((a % b:Nat):Int))]:=by
 rw [zcR]
 generalize zbE zal zao n=rest
 simp only [zal,zao]
 ac_nf0
 rw [show decide ((0:Int)<(b:Int))=true by rw [qaD];omega]
 ac_nf0
 rw [zdv (by omega)]
 ac_nf0
 rfl
theorem zj8 {s0 s1:Option D}: ∀ (k n a b:Nat) (x4:Option D),b<=a->a*b<2^k->k<n-> ∃ y4,zbE zal zao n [s0,s1,some (.int (a:Int)),some (.int (b:Int)),x4]=pure (.nx [s0,s1,some (.int (Nat.gcd a b:Int)),some (.int 0),y4])
 | k,0,a,b,x4,_,_,h=>by omega
 | k,n+1,a,b,x4,hab,hk,h=>by
  by_cases hb:b=0
  ·subst hb
   exact ⟨x4,by rw [zla,Nat.gcd_zero_right]⟩
  ·cases k with
   | zero=>
    have:1<=a*b:=Nat.mul_pos (by omega) (Nat.pos_of_ne_zero hb)
    omega
   | succ k=>
    obtain ⟨y4,ih⟩:=zj8 (s0:=s0) (s1:=s1) k n b (a % b) (some (.int ((a % b:Nat):Int))) (Nat.le_of_lt (Nat.mod_lt a (Nat.pos_of_ne_zero hb))) (euc hb hab hk) (by omega)
    exact ⟨y4,by rw [zkw hb,ih,zeu a b]⟩
theorem zrA {b r:Nat} (hb:b<bb) (h:r<=b):b*r<2^2000:=by
 have h1:b*r<=b*b:=Nat.mul_le_mul_left b h
 have h2:b*b<bb*bb:=Nat.mul_lt_mul'' hb hb
 have h3:bb*bb=2^2000:=by
  unfold bb
  rw [<- Nat.pow_add]
 omega
theorem zsp {a b:Nat} (hb:b<bb):F_2 [.int (a:Int),.int (b:Int)]=pure (.int (Nat.gcd a b:Int)):=by
 have e: ∃ y4,zbE zal zao 3000 [some (.int (a:Int)),some (.int (b:Int)),some (.int (a:Int)),some (.int (b:Int)),none]=pure (.nx [some (.int (a:Int)),some (.int (b:Int)),some (.int (Nat.gcd a b:Int)),some (.int 0),y4]):=by
  by_cases h0:b=0
  ·subst h0
   exact ⟨none,by rw [show (3000:Nat)=2999+1 from rfl,zla,Nat.gcd_zero_right]⟩
  ·have hr:=Nat.le_of_lt (Nat.mod_lt a (Nat.pos_of_ne_zero h0))
   obtain ⟨y4,ih⟩:=zj8 (s0:=some (.int (a:Int))) (s1:=some (.int (b:Int))) 2000 2999 b (a % b) (some (.int ((a % b:Nat):Int))) hr (zrA hb hr) (by decide)
   exact ⟨y4,by rw [show (3000:Nat)=2999+1 from rfl,zkw h0,ih,zeu a b]⟩
 obtain ⟨y4,e⟩:=e
 rw [d_2]
 simp only [G_2]
 ac_nf0
 rw [show zez 3000 zal zao [some (.int (a:Int)),some (.int (b:Int)),some (.int (a:Int)),some (.int (b:Int)),none]=zbE zal zao 3000 [some (.int (a:Int)),some (.int (b:Int)),some (.int (a:Int)),some (.int (b:Int)),none] from rfl,e]
 ac_nf0
theorem zd3 {p k:Nat} (h0:0<k) (h1:k<bb):F_1 [.int (p:Int),.int (k:Int)]=pure (zbg p k):=by
 have g0:=Nat.gcd_pos_of_pos_right p h0
 have g1:=Nat.gcd_le_right p h0
 rw [d_1]
 simp only [G_1]
 ac_nf0
 rw [zsp h1]
 ac_nf0
 rw [zdD g0 (by omega),zdD g0 (by omega)]
 ac_nf0
 rfl
theorem znZ {s0 s1:Option D} {n a:Nat}:zbE zaB zaE (n+1) [s0,s1,some (.int (a:Int)),some (.int ((0:Nat):Int))]=pure (.nx [s0,s1,some (.int (a:Int)),some (.int 0)]):=by
 rw [zcR]
 simp only [zaB]
 ac_nf0
 rfl
theorem zkS {s0 s1:Option D} {n a b:Nat} (hb:b≠0):zbE zaB zaE (n+1) [s0,s1,some (.int (a:Int)),some (.int (b:Int))]=zbE zaB zaE n [s0,s1,some (.int (b:Int)),some (.int ((a % b:Nat):Int))]:=by
 rw [zcR]
 generalize zbE zaB zaE n=rest
 simp only [zaB,zaE,zpl]
 ac_nf0
 rw [show decide ((0:Int)<(b:Int))=true by rw [qaD];omega]
 ac_nf0
 rw [zdv (by omega)]
 ac_nf0
 rfl
theorem zlc {s0 s1:Option D}: ∀ (k n a b:Nat),b<=a->a*b<2^k->k<n->zbE zaB zaE n [s0,s1,some (.int (a:Int)),some (.int (b:Int))]=pure (.nx [s0,s1,some (.int (Nat.gcd a b:Int)),some (.int 0)])
 | k,0,a,b,_,_,h=>by omega
 | k,n+1,a,b,hab,hk,h=>by
  by_cases hb:b=0
  ·subst hb
   rw [znZ,Nat.gcd_zero_right]
  ·cases k with
   | zero=>
    have:1<=a*b:=Nat.mul_pos (by omega) (Nat.pos_of_ne_zero hb)
    omega
   | succ k=>
    have ih:=zlc (s0:=s0) (s1:=s1) k n b (a % b) (Nat.le_of_lt (Nat.mod_lt a (Nat.pos_of_ne_zero hb))) (euc hb hab hk) (by omega)
    rw [zkS hb,ih,zeu a b]
theorem zfQ {p k:Nat} (h0:0<k) (h1:k<bb):F_37 [.int (p:Int),.int (k:Int)]=pure (zbg p k):=by
 have g0:=Nat.gcd_pos_of_pos_right p h0
 have g1:=Nat.gcd_le_right p h0
 have hr:=Nat.le_of_lt (Nat.mod_lt p h0)
 have e:zbE zaB zaE 3000 [some (.int (p:Int)),some (.int (k:Int)),some (.int (p:Int)),some (.int (k:Int))]=pure (.nx [some (.int (p:Int)),some (.int (k:Int)),some (.int (Nat.gcd p k:Int)),some (.int 0)]):=by
  rw [show (3000:Nat)=2999+1 from rfl,zkS (by omega),zlc 2000 2999 k (p % k) hr (zrA h1 hr) (by decide),zeu p k]
 have a1: ∀ n:Nat,zqS [.int (n:Int)]=pure (.int (n:Int)):=fun n=>by
  show pure (D.int (if (n:Int)<0 then -(n:Int) else n))=_
  rw [qa5 (by omega)]
 rw [d_37]
 simp only [G_37]
 ac_nf0
 rw [zqG]
 ac_nf0
 rw [a1,a1]
 ac_nf0
 rw [show zez 3000 zaB zaE [some (.int (p:Int)),some (.int (k:Int)),some (.int (p:Int)),some (.int (k:Int))]=zbE zaB zaE 3000 [some (.int (p:Int)),some (.int (k:Int)),some (.int (p:Int)),some (.int (k:Int))] from rfl,e]
 ac_nf0
 rw [zdD g0 (by omega),zdD g0 (by omega)]
 ac_nf0
 rfl
theorem zgG {p k:Nat} (h0:0<k) (h1:k<bb):F_38 [zbg p k]=pure (.bl true):=by
 have g0:=Nat.gcd_pos_of_pos_right p h0
 have hk0:0<k / Nat.gcd p k:=Nat.div_pos (Nat.gcd_le_right p h0) g0
 have hk1:k / Nat.gcd p k<bb:=Nat.lt_of_le_of_lt (Nat.div_le_self _ _) h1
 have hc:Nat.gcd (p / Nat.gcd p k) (k / Nat.gcd p k)=1:=by rw [Nat.gcd_div (Nat.gcd_dvd_left p k) (Nat.gcd_dvd_right p k),Nat.div_self g0]
 have ef:=zfQ (p:=p / Nat.gcd p k) hk0 hk1
 have es:zbg (p / Nat.gcd p k) (k / Nat.gcd p k)=zbg p k:=by
  unfold zbg
  rw [hc,Nat.div_one,Nat.div_one]
 rw [es] at ef
 have eq:=zky [((p / Nat.gcd p k:Nat):Int),((k / Nat.gcd p k:Nat):Int)] [((p / Nat.gcd p k:Nat):Int),((k / Nat.gcd p k:Nat):Int)]
 rw [beq_self_eq_true] at eq
 have et:=zm5 (show kn (zbg p k)=true from rfl)
 rw [d_38]
 simp only [G_38]
 unfold zbg at ef et ⊢
 simp only [isT] at et
 simp only [tI,qaM,List.map_nil] at eq
 ac_nf0
 rw [et]
 ac_nf0
 rw [zti]
 ac_nf0
 rw [zg0 rfl]
 simp only [isI]
 ac_nf0
 rw [zg0 rfl]
 simp only [isI]
 ac_nf0
 simp only [show (((2:Nat):Int)==2)=true from rfl]
 ac_nf0
 rw [show decide ((0:Int)<((k / Nat.gcd p k:Nat):Int))=true by rw [qaD];omega]
 ac_nf0
 rw [ef]
 ac_nf0
 rw [eq]
 ac_nf0
noncomputable def zeM (os:List (List Int×Int)) (ls:List Int):List Int:=zei ((zfS os ls).flatMap (·.1))
noncomputable def zbi (o:List Int×Int) (had:List Int):List Int:=o.1.filter fun t=> !had.any (· == t)
theorem zj1 (s:Stk m os) {ls:List Int} (b: ∀ x∈ls,0<=x/\x<os.length) (hi:i<os.length):F_39 [zbu m os,.int (i:Int),tI ls]=pure (tI (zbi (os.getD i ([],0)) (zeM os ls))):=by
 have mo:os.getD i ([],0)∈os:=by simp [List.getD,hi]
 have ol:=s.olen _ mo
 have e1:=zq8 s b
 have ea:=zeV (os:=os) (i:=(i:Int)) (by omega) (by omega)
 rw [qaB] at ea
 generalize hO:os.getD i ([],0)=o at ol ea
 have ec:zaI (iSq (cOp dIx (cOp dIx (cOp dIx (zag 0) (cK (.int 1))) (zag 1)) (cK (.int 0)))) (zaD 0) zcZ zc5 [none,some 3] [some (zbu m os),some (.int (i:Int)),some (tI ls),some (tI (zeM os ls))]=pure (.lst ((zbi o (zeM os ls)).map D.int)):=by
  unfold zbi
  rw [<- zc6]
  refine zbX (g':=D.int) (xs:=o.1) ?_ (by omega) fun t _=> ?_
  ·ac_nf0
   rw [zmR]
   ac_nf0
   rw [ea]
   ac_nf0
  ·have eb:zas [none,some 3] [some (zbu m os),some (.int (i:Int)),some (tI ls),some (tI (zeM os ls))]=[none,some (tI (zeM os ls))]:=rfl
   rw [eb]
   simp only [zbl,zcZ,zc5,tI]
   ac_nf0
   rw [zhl]
   ac_nf0
   split<;>rfl
 rw [d_39]
 simp only [G_39]
 unfold zeM at ec ⊢
 simp only [tI] at ec e1 ⊢
 ac_nf0
 rw [e1]
 ac_nf0
 rw [ec]
 ac_nf0
noncomputable def zqn (o:List Int×Int) (had:List Int):D:=if (zbi o had).length=0 then .non else zbg o.2.toNat (zbi o had).length
theorem zd6 {o:List Int×Int} {had:List Int}:(zbi o had).length<=o.1.length:=List.length_filter_le _ _
noncomputable def zf4 (os:List (List Int×Int)) (had:List Int) (i:Nat):Option (Nat×Nat×Nat):=if (zbi (os.getD i ([],0)) had).length=0 then none else some ((os.getD i ([],0)).2.toNat,(zbi (os.getD i ([],0)) had).length,i)
noncomputable def zcw (os:List (List Int×Int)) (had:List Int):Acc:=((List.range os.length).filterMap (zf4 os had)).foldl stp none
theorem zon {p c p' c':Nat} (h0:0<c) (h1:c<=12) (h0':0<c') (h1':c'<=12):F_3 [zbg p c,zbg p' c']=pure (.bl (decide (p*c'<p'*c))):=by
 have b1:c / Nat.gcd p c<=c:=Nat.div_le_self _ _
 have b2:c' / Nat.gcd p' c'<=c':=Nat.div_le_self _ _
 have hc:=zsK (p:=p) (p':=p') h0 h0'
 rw [d_3]
 simp only [G_3]
 unfold zbg
 generalize c / Nat.gcd p c=u1 at*
 generalize c' / Nat.gcd p' c'=u2 at*
 generalize p / Nat.gcd p c=u3 at*
 generalize p' / Nat.gcd p' c'=u4 at*
 ac_nf0
 rw [zc8 (by omega) (by omega),zc8 (by omega) (by omega)]
 ac_nf0
 simp only [zpc]
 ac_nf0
 rw [<- Int.natCast_mul, <-Int.natCast_mul]
 congr 2
 rw [decide_eq_decide,Int.ofNat_lt]
 exact hc
theorem zns (xs:List Int):dNe (tI xs) (.tup [])=pure (.bl (!xs.isEmpty)):=by
 have:=znf xs []
 rw [show tI []= .tup [] from rfl] at this
 rw [this]
 cases xs<;>rfl
theorem zeF (s:Stk m os) {ls:List Int} (b: ∀ x∈ls,0<=x/\x<os.length) {h0:Hh} {s5 s6 s7:Option D}: ∀ (is:List Nat) {rs:List (Nat×Nat×Nat)} {x3 x4:Option D} {P:Out->Hh->Prop},(∀ i∈is,i<os.length)->rs.length+is.length<=100->
  (∀ y3 y4,P (.nx [some (zbu m os),some (tI ls),some (.cel h0.length),y3,y4,s5,s6,s7]) (h0++[.lst ((rs++is.filterMap (zf4 os (zeM os ls))).map zft)]))->
  wp (zaL (fun x sd=>do let sd1<-zaD 3 x sd;zbb sd1) (is.map fun (i:Nat)=> .int (i:Int)) [some (zbu m os),some (tI ls),some (.cel h0.length),x3,x4,s5,s6,s7]) (h0++[.lst (rs.map zft)]) P
 | [],rs,x3,x4,P,_,_,k=>by
  rw [List.map_nil,zbS,zai]
  have:=k x3 x4
  rwa [List.filterMap_nil,List.append_nil] at this
 | i::r,rs,x3,x4,P,hi,hl,k=>by
  have h1:=hi i qau
  have mo:os.getD i ([],0)∈os:=by simp [List.getD,h1]
  have pp:=s.pos _ mo
  have hr:=fun y hy=>hi y (qan _ hy)
  have en:=zj1 s b h1
  have ea:=zeV (os:=os) (i:=(i:Int)) (by omega) (by omega)
  rw [qaB] at ea
  have er:zf4 os (zeM os ls) i=if (zbi (os.getD i ([],0)) (zeM os ls)).length=0 then none else some ((os.getD i ([],0)).2.toNat,(zbi (os.getD i ([],0)) (zeM os ls)).length,i):=rfl
  simp only [qaE] at hl
  generalize os.getD i ([],0)=o at pp en ea er
  generalize zbi o (zeM os ls)=nw at en er
  have e0:(h0++[C.lst (rs.map zft)])[h0.length]? = some (.lst (rs.map zft)):=by simp
  have f:=zay (show rs.length+1<=1000 by omega)
  have f3:=zay (show 0+1+1+1<=1000 by decide)
  have ez:=zns nw
  rw [qaM,zbr]
  simp only [tI] at en ez
  by_cases hc:nw.length=0
  ·have hn:nw=[]:=List.length_eq_zero_iff.mp hc
   rw [qa4 hc] at er
   have ih:=fun (x3 x4:Option D)=>zeF s b (h0:=h0) (s5:=s5) (s6:=s6) (s7:=s7) r (rs:=rs) (x3:=x3) (x4:=x4) (P:=P) hr (by omega) fun y3 y4=>by
    have:=k y3 y4
    rwa [qat,er] at this
   generalize zaL (fun x sd=>do let sd1<-zaD 3 x sd;zbb sd1) (r.map fun (i:Nat)=> .int (i:Int))=rest at ih ⊢
   subst hn
   simp only [List.map_nil] at en ez
   simp only [zbb]
   simp only [tI] at ih ⊢
   ac_nf0
   rw [en]
   ac_nf0
   rw [ez,List.isEmpty_nil]
   ac_nf0
   exact ih _ _
  ·have hne:nw.isEmpty=false:=by
    cases nw with
    | nil=>exact absurd rfl hc
    | cons _ _=>rfl
   rw [qa5 hc] at er
   have ih:=fun (x3 x4:Option D)=>zeF s b (h0:=h0) (s5:=s5) (s6:=s6) (s7:=s7) r (rs:=rs++[(o.2.toNat,nw.length,i)]) (x3:=x3) (x4:=x4) (P:=P) hr (by rw [qav,List.length_singleton];omega) fun y3 y4=>by
    have:=k y3 y4
    rw [qat,er] at this
    simpa using this
   have eset:(h0++[C.lst (rs.map zft)]).set h0.length (.lst (rs.map zft++[.tup [.int o.2,.int (nw.length:Int),.int (i:Int)]]))=h0++[.lst ((rs++[(o.2.toNat,nw.length,i)]).map zft)]:=by
    have e2:((o.2.toNat:Nat):Int)=o.2:=by omega
    rw [List.map_append,qaM,List.map_nil]
    unfold zft
    simp only [e2]
    simp
   generalize zaL (fun x sd=>do let sd1<-zaD 3 x sd;zbb sd1) (r.map fun (i:Nat)=> .int (i:Int))=rest at ih ⊢
   simp only [zbb]
   simp only [tI] at ih ⊢
   ac_nf0
   rw [en]
   ac_nf0
   rw [ez,hne]
   ac_nf0
   simp only [zdx,zda,zbW]
   ac_nf0
   simp only [zbN e0,zaj,zai,pure_bind]
   ac_nf0
   rw [zmR]
   ac_nf0
   rw [ea]
   ac_nf0
   simp only [zbN e0,zaj,zai,qaH,f,zfa,pure_bind,zbW]
   rw [eset]
   exact ih _ _
theorem zgX {s0 s1 s2 s4:Option D}: ∀ (rs:List (Nat×Nat×Nat)) (acc:Acc) (x3 x6 x7:Option D),(∀ x∈rs,0<x.2.1/\x.2.1<=12)->zrF acc->
  ∃ y3 y6 y7,zaL (fun x sd=>do let sd1<-zbO 3 (zaw (zaD 6) (zaw (zaD 7) (zaw (zaD 3) zbR))) x sd;zbQ sd1) (rs.map zft) [s0,s1,s2,x3,s4,some (zmO acc),x6,x7]=pure (.nx [s0,s1,s2,y3,s4,some (zmO (rs.foldl stp acc)),y6,y7])
 | [],acc,x3,x6,x7,_,_=>⟨x3,x6,x7,rfl⟩
 | x::r,acc,x3,x6,x7,hr,ho=>by
  obtain ⟨c0,c1⟩:=hr x qau
  obtain ⟨y3,y6,y7,ih⟩:=zgX (s0:=s0) (s1:=s1) (s2:=s2) (s4:=s4) r (stp acc x) (some (.int (x.2.2:Int))) (some (.int (x.1:Int))) (some (.int (x.2.1:Int))) (fun y hy=>hr y (qan _ hy)) (zik ho c0 c1)
  refine ⟨y3,y6,y7,?_⟩
  rw [qaM,zbr,List.foldl_cons, <-ih]
  generalize zaL (fun x sd=>do let sd1<-zbO 3 (zaw (zaD 6) (zaw (zaD 7) (zaw (zaD 3) zbR))) x sd;zbQ sd1) (r.map zft)=rest
  have eg: ∀ sd:Sd,zbO 3 (zaw (zaD 6) (zaw (zaD 7) (zaw (zaD 3) zbR))) (zft x) sd=pure (((sd.set 6 (some (.int (x.1:Int)))).set 7 (some (.int (x.2.1:Int)))).set 3 (some (.int (x.2.2:Int)))):=fun _=>rfl
  have n2:zkY .non .non=pure (.bl true):=rfl
  have n3: ∀ y:Nat×Nat×Nat,zkY (zft y) .non=pure (.bl false):=fun _=>rfl
  have a0: ∀ y:Nat×Nat×Nat,dIx (zft y) (.int 0)=pure (.int (y.1:Int)):=fun _=>rfl
  have a1: ∀ y:Nat×Nat×Nat,dIx (zft y) (.int 1)=pure (.int (y.2.1:Int)):=fun _=>rfl
  rw [eg]
  simp only [zbQ,List.set]
  cases acc with
  | none=>
   simp only [zmO,stp]
   ac_nf0
   rw [n2]
   ac_nf0
   rfl
  | some y=>
   obtain ⟨k0,k1⟩:=ho y rfl
   simp only [zmO,stp]
   ac_nf0
   rw [n3]
   ac_nf0
   rw [a1,a0]
   ac_nf0
   rw [zc8 (by omega) (by omega),zc8 (by omega) (by omega)]
   ac_nf0
   simp only [zpc]
   ac_nf0
   rw [<- Int.natCast_mul, <-Int.natCast_mul]
   by_cases hlt:x.1*y.2.1<y.1*x.2.1
   ·rw [decide_eq_true (Int.ofNat_lt.mpr hlt),qa4 hlt]
    ac_nf0
    rfl
   ·rw [decide_eq_false (fun z=>hlt (Int.ofNat_lt.mp z)),qa5 hlt]
    ac_nf0
theorem zo2 (s:Stk m os) {had:List Int} {is:List Nat} (hi: ∀ i∈is,i<os.length): ∀ x∈is.filterMap (zf4 os had),0<x.2.1/\x.2.1<=12:=by
 intro x hx
 obtain ⟨i,hm,e⟩:=List.mem_filterMap.mp hx
 have h1:=hi i hm
 have mo:os.getD i ([],0)∈os:=by simp [List.getD,h1]
 have ol:=s.olen _ mo
 have:=zd6 (o:=os.getD i ([],0)) (had:=had)
 unfold zf4 at e
 split at e
 ·cases e
 ·cases e
  exact ⟨by show 0<(zbi _ _).length;omega,by show (zbi _ _).length<=12;omega⟩
theorem zih (s:Stk m os) {ls:List Int} (b: ∀ x∈ls,0<=x/\x<(os.length:Int)):Ev (F_40 [zbu m os,tI ls]) (zi5 (zcw os (zeM os ls))):=by
 have ol:=s.len
 refine .of_wp fun h=> ?_
 rw [d_40,zaj]
 unfold G_40
 have hfr: ∀ i∈List.range os.length,i<os.length:=fun i hi=>List.mem_range.mp hi
 rw [za1,zcd]
 simp only [bind_assoc,zaj]
 have ec:ze3 zav [some (zbu m os),some (tI ls),none,none,none,none,none,none]=(do fits 0;zdZ []):=rfl
 rw [ec,zay (by decide),pure_bind,zgo]
 simp only [zai,zfk,List.set]
 rw [za1,zfo]
 have er:zjk (zac (zaF zgh (zac (cOp dIx (zag 0) (cK (.int 1))) zav)) zav) [some (zbu m os),some (tI ls),some (.cel h.length),none,none,none,none,none]=pure ((List.range os.length).map fun (i:Nat)=> .int (i:Int)):=by
  ac_nf0
  rw [zmR]
  ac_nf0
  rw [zcI (by omega) (by omega),qaB,zdb,qaT]
  rfl
 rw [er,pure_bind,zaj]
 refine zeF s b (rs:=[]) _ hfr (by simp;omega) fun y3 y4=> ?_
 rw [List.nil_append,zfk]
 have e1:(h++[C.lst (((List.range os.length).filterMap (zf4 os (zeM os ls))).map zft)])[h.length]? = some (.lst (((List.range os.length).filterMap (zf4 os (zeM os ls))).map zft)):=by simp
 obtain ⟨z3,z6,z7,ef⟩:=zgX (s0:=some (zbu m os)) (s1:=some (tI ls)) (s2:=some (.cel h.length)) (s4:=y4) ((List.range os.length).filterMap (zf4 os (zeM os ls))) none y3 none none (zo2 s hfr) (fun y e=>by cases e)
 rw [za1,zcd]
 simp only [zfd,pure_bind,zfk,List.set]
 rw [za1,zfo]
 simp only [bind_assoc,zaj,zox,zjZ,zaK,zaC,pure_bind]
 refine zlq e1 ?_
 simp only [zmO] at ef
 simp only [zot,zai,pure_bind]
 rw [ef,zai]
 have eh:(h++[C.lst (((List.range os.length).filterMap (zf4 os (zeM os ls))).map zft)]).set h.length .dead=h++[.dead]:=by simp
 rw [eh,zfk]
 have g:Gro h (h++[.dead]):=⟨_,rfl⟩
 show wp (zb8 (cIf (L3.zde zkY (zag 5) (cK .non)) (cK .non) (cOp dIx (zag 5) (cK (.int 2)))) [some (zbu m os),some (tI ls),some (.cel h.length),z3,y4,some (zmO (zcw os (zeM os ls))),z6,z7]) _ _
 cases hb:zcw os (zeM os ls) with
 | none=>
  have n2:zkY .non .non=pure (.bl true):=rfl
  simp only [zmO,zi5]
  ac_nf0
  rw [n2]
  ac_nf0
  first | exact ⟨trivial,g⟩ | exact ⟨g,trivial⟩ | exact g
 | some y=>
  have n3:zkY (zft y) .non=pure (.bl false):=rfl
  have a2:dIx (zft y) (.int 2)=pure (.int (y.2.2:Int)):=rfl
  simp only [zmO,zi5]
  ac_nf0
  rw [n3]
  ac_nf0
  rw [a2]
  ac_nf0
  first | exact ⟨trivial,g⟩ | exact ⟨g,trivial⟩ | exact g
theorem znp {o:List Int×Int} (ho:o.1.length<=12) (e:h[n]? = some (.lst (had.map D.int))) {P:D->Hh->Prop} (k:P (tI (zbi o had)) h):wp (F_24 [zbT o,.cel n]) h P:=by
 have ek:(o.1.map D.int).filterMap (fun d=>match d with | .int t=>if (!had.any (· == t))=true then some (.int t) else none | d=>none)=(zbi o had).map D.int:=by
  unfold zbi
  rw [<- zc6,List.filterMap_map]
  rfl
 rw [d_24]
 simp only [G_24]
 ac_nf0
 unfold zaI
 simp only [zbT,tI] at k ⊢
 ac_nf0
 rw [zay (by omega)]
 ac_nf0
 refine zdc (k:=fun d=>match d with | .int t=>if (!had.any (· == t))=true then some (.int t) else none | d=>none) (fun x hx=> ?_) ?_
 ·obtain ⟨t,_,rfl⟩:=qaU.mp hx
  have eb:zas [none,some 1] [some (.tup [.tup (o.1.map D.int),.int o.2]),some (.cel n)]=[none,some (.cel n)]:=rfl
  rw [eb]
  simp only [zbl,zdq,zdu]
  ac_nf0
  refine zjR e ?_
  ac_nf0
  cases had.any (· == t)<;>simp [zai]
 ·rw [ek]
  ac_nf0
  exact k
theorem zhg {o:List Int×Int} (ho:o.1.length<=12) (hp:0<o.2) (e:h[n]? = some (.lst (had.map D.int))) {P:D->Hh->Prop} (k:P (zqn o had) h):wp (F_23 [zbT o,.cel n]) h P:=by
 have hl:=zd6 (o:=o) (had:=had)
 rw [d_23]
 simp only [G_23]
 ac_nf0
 have e1:=fun (P:D->Hh->Prop) (k:P (tI (zbi o had)) h)=>znp ho e k
 unfold zqn at k
 simp only [tI,zbT] at e1 k ⊢
 refine e1 _ ?_
 generalize zbi o had=nw at hl k
 ac_nf0
 by_cases h0:nw.length=0
 ·rw [qa4 h0] at k
  rw [show decide ((0:Int)<(nw.length:Int))=false by rw [h0];rfl]
  ac_nf0
  exact k
 ·have er:=zd3 (p:=o.2.toNat) (k:=nw.length) (by omega) (zh5 (by omega))
  rw [show ((o.2.toNat:Nat):Int)=o.2 by omega] at er
  rw [qa5 h0] at k
  rw [show decide ((0:Int)<(nw.length:Int))=true by rw [qaD];omega]
  ac_nf0
  rw [er]
  ac_nf0
  exact k
theorem ze8 (s:Stk m os) (e:h[n]? = some (.lst (had.map D.int))): ∀ (is:List Nat) (acc:Acc) (x4 x5 x6:Option D) {P:Out->Hh->Prop},(∀ i∈is,i<os.length)->zrF acc->
  (∀ y4 y5 y6,P (.nx [some (zbu m os),some (.cel n),some (zi5 ((is.filterMap (zf4 os had)).foldl stp acc)),some (zrK ((is.filterMap (zf4 os had)).foldl stp acc)),y4,y5,y6]) h)->
  wp (zaL (fun x sd=>do let sd1<-zbO 2 (zaw (zaD 4) (zaw (zaD 5) zbR)) x sd;za0 sd1) (is.map fun (i:Nat)=> .tup [.int (i:Int),(os.map zbT).getD i .non]) [some (zbu m os),some (.cel n),some (zi5 acc),some (zrK acc),x4,x5,x6]) h P
 | [],acc,x4,x5,x6,P,_,_,k=>by
  rw [List.map_nil,zbS,zai]
  exact k x4 x5 x6
 | i::r,acc,x4,x5,x6,P,hi,ho,k=>by
  have h1:=hi i qau
  have mo:os.getD i ([],0)∈os:=by simp [List.getD,h1]
  have ol:=s.olen _ mo
  have pp:=s.pos _ mo
  have hnl:=zd6 (o:=os.getD i ([],0)) (had:=had)
  have eb:=fun (P:D->Hh->Prop) (k:P (zqn (os.getD i ([],0)) had) h)=>zhg (o:=os.getD i ([],0)) (by omega) pp e k
  have eo:(os.map zbT).getD i .non=zbT (os.getD i ([],0)):=by simp [List.getD,h1]
  have hr:=fun y hy=>hi y (qan _ hy)
  rw [qaM,zbr,eo]
  rw [qat] at k
  unfold zqn at eb
  have er:zf4 os had i=if (zbi (os.getD i ([],0)) had).length=0 then none else some ((os.getD i ([],0)).2.toNat,(zbi (os.getD i ([],0)) had).length,i):=rfl
  generalize os.getD i ([],0)=o at ol pp hnl eb er
  have n0:zhR .non .non=pure (.bl false):=rfl
  have n1: ∀ p k:Nat,zhR (zbg p k) .non=pure (.bl true):=fun _ _=>rfl
  have n2:zkY .non .non=pure (.bl true):=rfl
  have n3: ∀ p k:Nat,zkY (zbg p k) .non=pure (.bl false):=fun _ _=>rfl
  simp only [zbT,tI] at eb
  by_cases hc:(zbi o had).length=0
  ·rw [qa4 hc] at eb er
   rw [er] at k
   have ih:=fun (x4 x5 x6:Option D)=>ze8 s e r acc x4 x5 x6 (P:=P) hr ho k
   generalize zaL (fun x sd=>do let sd1<-zbO 2 (zaw (zaD 4) (zaw (zaD 5) zbR)) x sd;za0 sd1) (r.map fun (i:Nat)=> .tup [.int (i:Int),(os.map zbT).getD i .non])=rest at ih ⊢
   simp only [za0]
   ac_nf0
   refine eb _ ?_
   ac_nf0
   rw [n0]
   ac_nf0
   exact ih _ _ _
  ·rw [qa5 hc] at eb er
   rw [er] at k
   have c0:0<(zbi o had).length:=Nat.pos_of_ne_zero hc
   have c1:(zbi o had).length<=12:=by omega
   have ih:=fun (x4 x5 x6:Option D)=>ze8 s e r (stp acc (o.2.toNat,(zbi o had).length,i)) x4 x5 x6 (P:=P) hr (zik ho c0 c1) k
   generalize zaL (fun x sd=>do let sd1<-zbO 2 (zaw (zaD 4) (zaw (zaD 5) zbR)) x sd;za0 sd1) (r.map fun (i:Nat)=> .tup [.int (i:Int),(os.map zbT).getD i .non])=rest at ih ⊢
   clear k er
   generalize (zbi o had).length=c at*
   simp only [za0]
   ac_nf0
   refine eb _ ?_
   ac_nf0
   rw [n1]
   ac_nf0
   cases acc with
   | none=>
    simp only [zrK,zi5,stp] at ih ⊢
    rw [n2]
    ac_nf0
    exact ih _ _ _
   | some y=>
    obtain ⟨k0,k1⟩:=ho y rfl
    have hl:=zon (p:=o.2.toNat) (c:=c) (p':=y.1) (c':=y.2.1) c0 c1 k0 k1
    simp only [zrK,zi5,stp] at ih ⊢
    rw [n3]
    ac_nf0
    rw [hl]
    ac_nf0
    by_cases hlt:o.2.toNat*y.2.1<y.1*c
    ·rw [qa4 hlt] at ih
     rw [decide_eq_true hlt]
     ac_nf0
     exact ih _ _ _
    ·rw [qa5 hlt] at ih
     rw [decide_eq_false hlt]
     ac_nf0
     exact ih _ _ _
theorem zoW (s:Stk m os) (e:h[n]? = some (.lst (had.map D.int))) {P:D->Hh->Prop} (k:P (zi5 (zcw os had)) h):wp (F_22 [zbu m os,.cel n]) h P:=by
 have ee:zs7 (cOp dIx (zag 0) (cK (.int 1))) [some (zbu m os),some (.cel n),some .non,some .non,none,none,none]=pure ((List.range os.length).map fun (i:Nat)=> .tup [.int (i:Int),(os.map zbT).getD i .non]):=by
  show (pure (znl (os.map zbT)):M (List D))=_
  unfold znl
  rw [qaH]
 rw [d_22]
 simp only [G_22]
 simp only [za1,zcd,zfd,pure_bind,zfk,List.set,bind_assoc,zfo]
 rw [ee,pure_bind,zaj]
 refine ze8 s e (List.range os.length) none none none none (fun i hi=>List.mem_range.mp hi) (fun y e=>by cases e) fun y4 y5 y6=> ?_
 ac_nf0
 exact k
noncomputable def zek (m:Int) (os:List (List Int×Int)):Bool:=((zei (os.flatMap (·.1))).length:Int)==m
theorem zk6 (s:Stk m os):Ev (F_17 [zbu m os]) (.bl (zek m os)):=by
 have e:=zpK s (d:= .tup (os.map zbT)) (os':=os) rfl s.len fun o ho=>ho
 refine .of_wp fun h=> ?_
 rw [d_17]
 simp only [G_17]
 ac_nf0
 rw [zmR]
 ac_nf0
 refine e.wp fun h' g=> ?_
 ac_nf0
 first | exact ⟨g,rfl⟩ | exact ⟨trivial,g⟩ | exact ⟨g,trivial⟩ | exact g
theorem zf8 (s:Stk m os):zek m os=true↔ ∀ t:Int,0<=t->t<m-> ∃ o∈os,t∈o.1:=by
 have m0:=s.m0
 have hbd: ∀ x∈zei (os.flatMap (·.1)),0<=x/\x<m:=fun x hx=>by
  obtain ⟨o,ho,hx⟩:=List.mem_flatMap.mp (zcb.mp hx)
  exact s.bd o ho x hx
 have hf:=zkx (by omega) (zd0 _) hbd
 unfold zek
 rw [<- hf,beq_iff_eq]
 constructor
 ·intro e t t0 t1
  have:t∈zei (os.flatMap (·.1)):=by
   rw [e]
   exact qaU.mpr ⟨t.toNat,List.mem_range.mpr (by omega),by omega⟩
  exact List.mem_flatMap.mp (zcb.mp this)
 ·intro h
  refine List.Perm.eq_of_pairwise (le:=fun a b:Int=>a<b) (fun a b _ _ h1 h2=>by omega) (zd0 _) (zdT _) ?_
  refine (List.perm_ext_iff_of_nodup ((zd0 _).imp fun z=>by omega) ((zdT _).imp fun z=>by omega)).mpr fun x=> ?_
  constructor
  ·intro hx
   have:=hbd x hx
   exact qaU.mpr ⟨x.toNat,List.mem_range.mpr (by omega),by omega⟩
  ·intro hx
   have:=zex x hx
   obtain ⟨o,ho,h2⟩:=h x (by omega) (by omega)
   exact zcb.mpr (List.mem_flatMap.mpr ⟨o,ho,h2⟩)
theorem zoD (s:Stk m os) (hf:zek m os=true):Ev (F_18 [zbu m os]) .non:=by
 have e:=zk6 s
 rw [hf] at e
 refine .of_wp fun h=> ?_
 rw [d_18]
 simp only [G_18]
 ac_nf0
 refine e.noX.wp fun h' g=> ?_
 ac_nf0
 first | exact ⟨trivial,g⟩ | exact ⟨g,trivial⟩ | exact g
theorem zo8 (s:Stk m os) (hf:zek m os=false):EvX (F_18 [zbu m os]) "NotFull":=by
 have e:=zk6 s
 rw [hf] at e
 rw [d_18]
 simp only [G_18]
 ac_nf0
 refine Ev.bindX e.noX ?_
 ac_nf0
 exact .raise
theorem zhy {m:Int} {had:List Int} (m0:0<=m) (hn:had.Nodup) (hb: ∀ t∈had,0<=t/\t<m):(had.length:Int)=m↔ ∀ t:Int,0<=t->t<m->t∈had:=by
 have hf:=zkx m0 (zdg hn) fun x hx=>hb x ((zax had).mem_iff.mp hx)
 rw [(zax had).length_eq,Bool.eq_iff_iff,beq_iff_eq,beq_iff_eq] at hf
 rw [<- hf]
 constructor
 ·intro e t t0 t1
  refine (zax had).mem_iff.mp ?_
  rw [e]
  exact qaU.mpr ⟨t.toNat,List.mem_range.mpr (by omega),by omega⟩
 ·intro h
  refine zob (zdg hn) (zdT _) fun t=> ?_
  rw [(zax had).mem_iff]
  constructor
  ·intro ht
   have:=hb t ht
   exact qaU.mpr ⟨t.toNat,List.mem_range.mpr (by omega),by omega⟩
  ·intro ht
   have:=zex t ht
   exact h t (by omega) (by omega)
theorem zcG {o:List Int×Int} {t:Int}:t∈zbi o had↔t∈o.1/\t∉had:=by
 unfold zbi
 rw [List.mem_filter]
 constructor
 ·rintro ⟨h1,h2⟩
  exact ⟨h1,fun z=>by rw [zes.mpr z] at h2;cases h2⟩
 ·rintro ⟨h1,h2⟩
  refine ⟨h1,?_⟩
  cases hb:had.any (· == t) with
  | false=>rfl
  | true=>exact absurd (zes.mp hb) h2
theorem zfq {o:List Int×Int} {had':List Int} (h: ∀ t,t∈had↔t∈had'):zbi o had=zbi o had':=by
 unfold zbi
 refine List.filter_congr fun t _=> ?_
 congr 1
 rw [Bool.eq_iff_iff,zes,zes,h]
theorem zeJ {had':List Int} (h: ∀ t,t∈had↔t∈had'):zcw os had=zcw os had':=by
 have e:zf4 os had=zf4 os had':=by
  funext i
  unfold zf4
  rw [zfq h]
 unfold zcw
 rw [e]
theorem ziC {y:Nat×Nat×Nat}: ∀ (xs:List (Nat×Nat×Nat)) (acc:Acc),xs.foldl stp acc=some y->acc=some y\/y∈xs
 | [],acc,e=> .inl e
 | x::r,acc,e=>by
  rw [List.foldl_cons] at e
  rcases ziC r _ e with z | z
  ·unfold stp at z
   split at z
   ·cases z
    exact .inr qau
   ·split at z
    ·cases z
     exact .inr qau
    ·exact .inl z
  ·exact .inr (qan _ z)
theorem zeS: ∀ (xs:List (Nat×Nat×Nat)) (z:Nat×Nat×Nat), ∃ y,xs.foldl stp (some z)=some y
 | [],z=>⟨z,rfl⟩
 | x::r,z=>by
  rw [List.foldl_cons]
  have e:stp (some z) x=some x\/stp (some z) x=some z:=by
   simp only [stp]
   split
   ·exact .inl rfl
   ·exact .inr rfl
  rcases e with e | e<;>rw [e]
  ·exact zeS r x
  ·exact zeS r z
theorem zcA {y:Nat×Nat×Nat} (e:zcw os had=some y):y.2.2<os.length/\y.2.1=(zbi (os.getD y.2.2 ([],0)) had).length/\0<y.2.1:=by
 unfold zcw at e
 rcases ziC _ _ e with z | z
 ·cases z
 ·obtain ⟨i,hi,e⟩:=List.mem_filterMap.mp z
  unfold zf4 at e
  split at e
  ·cases e
  ·rename_i hc
   cases e
   exact ⟨List.mem_range.mp hi,rfl,Nat.pos_of_ne_zero hc⟩
theorem zmn (hi:i<os.length) {t:Int} (ht:t∈(os.getD i ([],0)).1) (hn:t∉had): ∃ y,zcw os had=some y:=by
 have hm:t∈zbi (os.getD i ([],0)) had:=zcG.mpr ⟨ht,hn⟩
 have hl:=List.length_pos_of_mem hm
 have:((os.getD i ([],0)).2.toNat,(zbi (os.getD i ([],0)) had).length,i)∈(List.range os.length).filterMap (zf4 os had):=List.mem_filterMap.mpr ⟨i,List.mem_range.mpr hi,by unfold zf4;rw [qa5 (by omega)]⟩
 unfold zcw
 cases hx:(List.range os.length).filterMap (zf4 os had) with
 | nil=>rw [hx] at this;cases this
 | cons x r=>
  rw [List.foldl_cons]
  exact zeS r x
structure Ok (m:Int) (had:List Int):Prop where
 nd:had.Nodup
 bd: ∀ t∈had,0<=t/\t<m
theorem Ok.nil:Ok m []:=⟨.nil,fun t ht=>by cases ht⟩
theorem Ok.more (s:Stk m os) (o:Ok m had) (hi:i<os.length):Ok m (had++zbi (os.getD i ([],0)) had):=by
 have mo:os.getD i ([],0)∈os:=by simp [List.getD,hi]
 refine ⟨List.nodup_append.mpr ⟨o.nd,?_,fun a ha b hb e=> ?_⟩,fun t ht=> ?_⟩
 ·unfold zbi
  exact ((s.up _ mo).imp fun z=>by omega).filter _
 ·subst e
  exact (zcG.mp hb).2 ha
 ·rcases qaK.mp ht with z | z
  ·exact o.bd t z
  ·exact s.bd _ mo t (zcG.mp z).1
theorem zeo (s:Stk m os) (hf:zek m os=true) (o:Ok m had):(had.length:Int)<m↔ ∃ y,zcw os had=some y:=by
 have m0:=s.m0
 have hl:=zb3 (by omega) o.nd o.bd
 have ha:=zhy (by omega) o.nd o.bd
 constructor
 ·intro hlt
  have hna: ¬ ∀ t:Int,0<=t->t<m->t∈had:=fun z=>by
   have:=ha.mpr z
   omega
  obtain ⟨t,ht⟩:=Classical.not_forall.mp hna
  have ht:0<=t/\t<m/\t∉had:=by
   refine ⟨Classical.byContradiction fun z=>ht fun a=>absurd a z,Classical.byContradiction fun z=>ht fun _ a=>absurd a z,fun z=>ht fun _ _=>z⟩
  obtain ⟨of,ho,hx⟩:=(zf8 s).mp hf t ht.1 ht.2.1
  obtain ⟨i,hi,rfl⟩:=List.mem_iff_getElem.mp ho
  exact zmn hi (by simpa [List.getD,hi] using hx) ht.2.2
 ·rintro ⟨y,e⟩
  obtain ⟨h1,h2,h3⟩:=zcA e
  refine Classical.byContradiction fun z=> ?_
  have hall:=ha.mp (by omega)
  obtain ⟨t,ht⟩:=List.exists_mem_of_length_pos (l:=zbi (os.getD y.2.2 ([],0)) had) (by omega)
  obtain ⟨k1,k2⟩:=zcG.mp ht
  have mo:os.getD y.2.2 ([],0)∈os:=by simp [List.getD,h1]
  have:=s.bd _ mo t k1
  exact k2 (hall t this.1 this.2)
noncomputable def zdU (os:List (List Int×Int)):Nat->List Int->List (Nat×List Int)
 | 0,_=>[]
 | f+1,had=>match zcw os had with
  | none=>[]
  | some y=>(y.2.2,zbi (os.getD y.2.2 ([],0)) had)::zdU os f (had++zbi (os.getD y.2.2 ([],0)) had)
theorem zhf {f:Nat} (e:zcw os had=none):zdU os f had=[]:=by
 cases f with
 | zero=>rfl
 | succ f=>rw [zdU,e]
theorem zew {f:Nat} {y:Nat×Nat×Nat} (e:zcw os had=some y):zdU os (f+1) had=(y.2.2,zbi (os.getD y.2.2 ([],0)) had)::zdU os f (had++zbi (os.getD y.2.2 ([],0)) had):=by
 rw [zdU,e]
theorem zic: ∀ (f:Nat) (had:List Int),(zdU os f had).length<=f
 | 0,_=>qaV _
 | f+1,had=>by
  rw [zdU]
  split
  ·exact Nat.zero_le _
  ·rw [qaE]
   exact Nat.succ_le_succ (zic f _)
theorem ziA: ∀ (f:Nat) (had:List Int), ∀ x∈zdU os f had,x.1<os.length/\zbi (os.getD x.1 ([],0)) had≠[]/\0<x.2.length/\x.2.length<=(os.getD x.1 ([],0)).1.length
 | 0,had,x,hx=>by cases hx
 | f+1,had,x,hx=>by
  rw [zdU] at hx
  split at hx
  ·cases hx
  ·rename_i y e
   obtain ⟨h1,h2,h3⟩:=zcA e
   rcases qaP.mp hx with rfl | hx
   ·refine ⟨h1,fun z=> ?_,by show 0<(zbi _ _).length;omega,zd6⟩
    have z:zbi (os.getD y.2.2 ([],0)) had=[]:=z
    rw [z] at h2
    simp at h2
    omega
   ·obtain ⟨k1,k2,k3,k4⟩:=ziA f _ x hx
    refine ⟨k1,fun z=> ?_,k3,k4⟩
    obtain ⟨t,ht⟩:=List.exists_mem_of_ne_nil _ k2
    obtain ⟨w1,w2⟩:=zcG.mp ht
    have:t∈zbi (os.getD x.1 ([],0)) had:=zcG.mpr ⟨w1,fun w=>w2 (List.mem_append_left _ w)⟩
    rw [z] at this
    cases this
theorem zfY {ls:List Int} {t:Int}:t∈zeM os ls↔ ∃ x∈ls,t∈(os.getD x.toNat ([],0)).1:=by
 unfold zeM zfS
 rw [zcb,List.mem_flatMap]
 constructor
 ·rintro ⟨o,ho,ht⟩
  obtain ⟨x,hx,rfl⟩:=qaU.mp ho
  exact ⟨x,hx,ht⟩
 ·rintro ⟨x,hx,ht⟩
  exact ⟨_,qaU.mpr ⟨x,hx,rfl⟩,ht⟩
theorem zkR {ls:List Int} (h: ∀ t,t∈had↔t∈zeM os ls): ∀ t,t∈had++zbi (os.getD i ([],0)) had↔t∈zeM os (ls++[(i:Int)]):=fun t=>by
 rw [zfY,qaK,zcG,h t,zfY]
 constructor
 ·rintro (⟨x,hx,ht⟩ | ⟨ht,_⟩)
  ·exact ⟨x,List.mem_append_left _ hx,ht⟩
  ·exact ⟨(i:Int),by simp,by rw [qaB];exact ht⟩
 ·rintro ⟨x,hx,ht⟩
  rcases qaK.mp hx with z | z
  ·exact .inl ⟨x,z,ht⟩
  ·have z:x=(i:Int):=by simpa using z
   subst z
   rw [qaB] at ht
   by_cases w: ∃ x∈ls,t∈(os.getD x.toNat ([],0)).1
   ·exact .inl w
   ·exact .inr ⟨ht,w⟩
noncomputable def wD (os:List (List Int×Int)) (x:Nat×List Int):D:= .tup [.int (x.1:Int),tI x.2,zbg (os.getD x.1 ([],0)).2.toNat x.2.length]
theorem ziE {had:List Int} {a b:Nat} {h:Hh} {x3 x4 x5:Option D} {P:Bool->Hh->Prop} (eb:h[b]? = some (.lst (had.map D.int))) (k:P (decide ((had.length:Int)<m)) h):wp (zba [some (zbu m os),some (.cel a),some (.cel b),x3,x4,x5]) h P:=by
 simp only [zba]
 ac_nf0
 rw [zq6]
 simp only [bind_assoc,zaj,zbN eb,pure_bind,zsr,qaH,zai,zpc,zdn]
 exact k
theorem zms (s:Stk m os) (hf:zek m os=true) {a b:Nat} (hab:a≠b) (f:Nat): ∀ {had:List Int} {rs:List (Nat×List Int)} {h:Hh} {x3 x4 x5:Option D} {P:Out->Hh->Prop} (N:Nat),Ok m had->h[a]? = some (.lst (rs.map (wD os)))->h[b]? = some (.lst (had.map D.int))->m<=had.length+f->rs.length+f<=100->f<N->
  (∀ y3 y4 y5 h',(∀ j,j≠a->j≠b->h'[j]? = h[j]?)->h'.length=h.length->h'[a]? = some (.lst ((rs++zdU os f had).map (wD os)))->P (.nx [some (zbu m os),some (.cel a),some (.cel b),y3,y4,y5]) h')->
  wp (zbE zba zbo N [some (zbu m os),some (.cel a),some (.cel b),x3,x4,x5]) h P:=by
 induction f with
 | zero=>
  intro had rs h x3 x4 x5 P N o ea eb hm hl hN k
  obtain ⟨N,rfl⟩: ∃ N',N=N'+1:=⟨N - 1,by omega⟩
  rw [zcR,zaj]
  refine ziE eb ?_
  rw [show decide ((had.length:Int)<m)=false by rw [decide_eq_false_iff_not];omega]
  ac_nf0
  exact k _ _ _ _ (fun _ _ _=>rfl) rfl (by rw [zdU,List.append_nil];exact ea)
 | succ f ih=>
  intro had rs h x3 x4 x5 P N o ea eb hm hl hN k
  obtain ⟨N,rfl⟩: ∃ N',N=N'+1:=⟨N - 1,by omega⟩
  rw [zcR,zaj]
  refine ziE eb ?_
  have bi:=zeo s hf o
  cases hb:zcw os had with
  | none=>
   have hc: ¬(had.length:Int)<m:=fun z=>by
    obtain ⟨y,e⟩:=bi.mp z
    rw [hb] at e
    cases e
   rw [decide_eq_false hc]
   ac_nf0
   exact k _ _ _ _ (fun _ _ _=>rfl) rfl (by rw [zhf hb,List.append_nil];exact ea)
  | some y=>
   rw [zew hb] at k
   have hc:(had.length:Int)<m:=bi.mpr ⟨y,hb⟩
   obtain ⟨h1,h2,h3⟩:=zcA hb
   have mo:os.getD y.2.2 ([],0)∈os:=by simp [List.getD,h1]
   have ol:=s.olen _ mo
   have pp:=s.pos _ mo
   have eo:=zeV (os:=os) (i:=(y.2.2:Int)) (by omega) (by omega)
   rw [qaB] at eo
   have o':=Ok.more s o h1
   have hln:=(qac.mp ea).1
   have hlb:=(qac.mp eb).1
   have hhl:=zb3 (by have:=s.m0;omega) o.nd o.bd
   have m1:=s.m1
   have bw:=fun (P:D->Hh->Prop)=>zoW s eb (P:=P)
   rw [hb] at bw
   have hw:wD os (y.2.2,zbi (os.getD y.2.2 ([],0)) had)= .tup [.int (y.2.2:Int),tI (zbi (os.getD y.2.2 ([],0)) had),zbg (os.getD y.2.2 ([],0)).2.toNat (zbi (os.getD y.2.2 ([],0)) had).length]:=rfl
   have e1:=fun (P:D->Hh->Prop)=>znp (o:=os.getD y.2.2 ([],0)) (by omega) eb (P:=P)
   have e2:=fun (P:D->Hh->Prop)=>zhg (o:=os.getD y.2.2 ([],0)) (by omega) pp eb (P:=P)
   unfold zqn at e2
   rw [qa5 (by omega)] at e2
   have ih':=fun (x3 x4 x5:Option D)=>ih (had:=had++zbi (os.getD y.2.2 ([],0)) had) (rs:=rs++[(y.2.2,zbi (os.getD y.2.2 ([],0)) had)]) (h:=(h.set a (.lst (rs.map (wD os)++[wD os (y.2.2,zbi (os.getD y.2.2 ([],0)) had)]))).set b (.lst ((had++zbi (os.getD y.2.2 ([],0)) had).map D.int))) (x3:=x3) (x4:=x4) (x5:=x5) (P:=P) N o'
    (by rw [qao (Ne.symm hab),qai hln,List.map_append];rfl) (by rw [qai (by rw [qaI];exact hlb)]) (by rw [qav];omega) (by simp;omega) (by omega)
    fun y3 y4 y5 h' q1 q2 q3=>k y3 y4 y5 h' (fun j ja jb=>by rw [q1 j ja jb,qao (Ne.symm jb),qao (Ne.symm ja)]) (by rw [q2,qaI,qaI]) (by rw [q3,List.append_assoc];rfl)
   have f1:=zay (show (rs.length+1)<=1000 by omega)
   have hnl:=zd6 (o:=os.getD y.2.2 ([],0)) (had:=had)
   have f2:=zay (show had.length+(zbi (os.getD y.2.2 ([],0)) had).length<=1000 by omega)
   have f3:=zay (show 3<=1000 by omega)
   have eb':(h.set a (.lst (rs.map (wD os)++[wD os (y.2.2,zbi (os.getD y.2.2 ([],0)) had)])))[b]? = some (.lst (had.map D.int)):=by rw [qao hab];exact eb
   rw [hw] at ih' eb'
   rw [decide_eq_true hc,qa4 rfl]
   generalize zbE zba zbo N=rest at ih' ⊢
   generalize os.getD y.2.2 ([],0)=of at*
   generalize zbi of had=nw at*
   simp only [zi5] at bw
   simp only [zbT,tI,List.map_append] at e1 e2 eo ih' eb'
   simp only [zbo]
   ac_nf0
   refine bw _ ?_
   ac_nf0
   rw [zmR]
   ac_nf0
   rw [eo]
   ac_nf0
   refine e1 _ ?_
   ac_nf0
   simp only [zdx,zda,zbW,zaK,zaC,pure_bind,bind_assoc,zaj,zbN ea,zai]
   ac_nf0
   refine e2 _ ?_
   ac_nf0
   simp only [zbN ea,zaj,zai,qaH,f1,f3,zfa,pure_bind,zda,zbW]
   ac_nf0
   simp only [zbN eb',zaj,zai,qaH,f2,zfa,pure_bind]
   ac_nf0
   rw [f2,zai]
   exact ih' _ _ _
theorem zoZ (s:Stk m os) (hf:zek m os=true):Ev (F_21 [zbu m os]) (.lst ((zdU os 10 []).map (wD os))):=by
 have m1:=s.m1
 refine .of_wp fun h=> ?_
 rw [d_21]
 simp only [G_21]
 ac_nf0
 refine (zoD s hf).wp fun h1 g1=> ?_
 ac_nf0
 refine znn ?_
 have hl:=g1
 obtain ⟨t,rfl⟩:=g1
 generalize hu:h++t=u at hl ⊢
 have hul:h.length<=u.length:=by rw [<- hu];simp
 refine zms s hf (a:=u.length) (b:=u.length+1) (by omega) 10 (had:=[]) (rs:=[]) 1000 Ok.nil (by simp) (by rw [qaa (by omega)];simp) (by simp;omega) (by simp) (by decide) fun y3 y4 y5 h' q1 q2 q3=> ?_
 ac_nf0
 rw [List.nil_append] at q3
 refine zlq q3 ?_
 ac_nf0
 have g:Gro h (h'.set u.length .dead):=Kp.gro ⟨by rw [qaI,q2,qav];omega,fun j hj=>by
   rw [qao (by omega),q1 j (by omega) (by omega),qad (by omega), <-hu,qad hj]⟩
 first | exact ⟨trivial,g⟩ | exact ⟨g,trivial⟩ | exact ⟨rfl,g⟩ | exact g
theorem zoe (s:Stk m os) (hf:zek m os=false):EvX (F_21 [zbu m os]) "NotFull":=by
 rw [d_21]
 simp only [G_21]
 ac_nf0
 exact EvX.left (zo8 s hf)
theorem zgs {a:Nat} {ls:List Int} {A:Acc} {h:Hh} {x3 x4:Option D} {P:Bool->Hh->Prop} (eb:Ev (F_40 [zbu m os,tI ls]) (zi5 A)) (k: ∀ h',Gro h h'->P A.isSome h'):wp (zbG [some (zbu m os),some (.cel a),some (tI ls),x3,x4]) h P:=by
 have n0:zhR .non .non=pure (.bl false):=rfl
 have n1: ∀ z:Int,zhR (.int z) .non=pure (.bl true):=fun _=>rfl
 simp only [zbG]
 simp only [tI] at eb
 ac_nf0
 refine eb.wp fun h' g=> ?_
 cases A with
 | none=>
  simp only [zi5]
  rw [n0]
  ac_nf0
  exact k h' g
 | some y=>
  simp only [zi5]
  rw [n1]
  ac_nf0
  exact k h' g
theorem zjW (s:Stk m os) (hf:zek m os=true) {a:Nat} (f:Nat): ∀ {had ls:List Int} {rs:List (Nat×List Int)} {h:Hh} {x3 x4:Option D} {P:Out->Hh->Prop} (N:Nat),Ok m had->(∀ t,t∈had↔t∈zeM os ls)->(∀ x∈ls,0<=x/\x<(os.length:Int))->h[a]? = some (.lst (rs.map (wD os)))->m<=had.length+f->rs.length+f<=100->ls.length+f<=100->f<N->
  (∀ y2 y3 y4 h',(∀ j,j<h.length->j≠a->h'[j]? = h[j]?)->h.length<=h'.length->h'[a]? = some (.lst ((rs++zdU os f had).map (wD os)))->P (.nx [some (zbu m os),some (.cel a),y2,y3,y4]) h')->
  wp (zbE zbG zca N [some (zbu m os),some (.cel a),some (tI ls),x3,x4]) h P:=by
 have m1:=s.m1
 induction f with
 | zero=>
  intro had ls rs h x3 x4 P N o hm hb ea hl h1 h2 hN k
  obtain ⟨N,rfl⟩: ∃ N',N=N'+1:=⟨N - 1,by omega⟩
  have bi:=zeo s hf o
  have eb:=zih s hb
  have hbn:zcw os had=none:=by
   cases hx:zcw os had with
   | none=>rfl
   | some y=>
    have:=bi.mpr ⟨y,hx⟩
    omega
  rw [<- zeJ hm,hbn] at eb
  rw [zcR,zaj]
  refine zgs (A:=none) eb fun h' g=> ?_
  rw [Option.isSome_none]
  ac_nf0
  obtain ⟨t,rfl⟩:=g
  refine k _ _ _ _ (fun j hj _=>qad hj) (by simp) ?_
  rw [qad (qac.mp ea).1,zdU,List.append_nil]
  exact ea
 | succ f ih=>
  intro had ls rs h x3 x4 P N o hm hb ea hl h1 h2 hN k
  obtain ⟨N,rfl⟩: ∃ N',N=N'+1:=⟨N - 1,by omega⟩
  have bi:=zeo s hf o
  have eb:=zih s hb
  rw [<- zeJ hm] at eb
  rw [zcR,zaj]
  refine zgs eb fun h' g=> ?_
  cases hbA:zcw os had with
  | none=>
   rw [Option.isSome_none]
   ac_nf0
   obtain ⟨t,rfl⟩:=g
   refine k _ _ _ _ (fun j hj _=>qad hj) (by simp) ?_
   rw [qad (qac.mp ea).1,zhf hbA,List.append_nil]
   exact ea
  | some y=>
   rw [zew hbA] at k
   rw [hbA] at eb
   simp only [zi5] at eb
   rw [Option.isSome_some,qa4 rfl]
   obtain ⟨k1,k2,k3⟩:=zcA hbA
   have mo:os.getD y.2.2 ([],0)∈os:=by simp [List.getD,k1]
   have ol:=s.olen _ mo
   have pp:=s.pos _ mo
   have eo:=zeV (os:=os) (i:=(y.2.2:Int)) (by omega) (by omega)
   rw [qaB] at eo
   have o':=Ok.more s o k1
   have en:=zj1 s hb k1
   rw [<- zfq hm] at en
   have hnl:=zd6 (o:=os.getD y.2.2 ([],0)) (had:=had)
   have er:=zfQ (p:=(os.getD y.2.2 ([],0)).2.toNat) (k:=(zbi (os.getD y.2.2 ([],0)) had).length) (by omega) (zh5 (by omega))
   rw [show (((os.getD y.2.2 ([],0)).2.toNat:Nat):Int)=(os.getD y.2.2 ([],0)).2 by omega] at er
   have hm':=zkR (i:=y.2.2) hm
   have hw:wD os (y.2.2,zbi (os.getD y.2.2 ([],0)) had)= .tup [.int (y.2.2:Int),tI (zbi (os.getD y.2.2 ([],0)) had),zbg (os.getD y.2.2 ([],0)).2.toNat (zbi (os.getD y.2.2 ([],0)) had).length]:=rfl
   have ih':=fun (h'':Hh) (x3 x4:Option D) (q:h''[a]? = some (.lst ((rs++[(y.2.2,zbi (os.getD y.2.2 ([],0)) had)]).map (wD os)))) (q0: ∀ j,j<h.length->j≠a->h''[j]? = h[j]?) (q1:h.length<=h''.length)=>ih (had:=had++zbi (os.getD y.2.2 ([],0)) had) (ls:=ls++[(y.2.2:Int)]) (rs:=rs++[(y.2.2,zbi (os.getD y.2.2 ([],0)) had)]) (h:=h'') (x3:=x3) (x4:=x4) (P:=P) N o' hm' (fun x hx=>by
     rcases qaK.mp hx with z | z
     · exact hb x z
     · have z:x=(y.2.2:Int):=by simpa using z
       omega) q (by rw [qav];omega) (by simp;omega) (by simp;omega) (by omega)
    fun y2 y3 y4 h' w1 w2 w3=>k y2 y3 y4 h' (fun j jl ja=>by rw [w1 j (by omega) ja,q0 j jl ja]) (by omega) (by rw [w3,List.append_assoc];rfl)
   rw [List.map_append,qaM,List.map_nil,hw] at ih'
   have f1:=zay (show (rs.length+1)<=1000 by omega)
   have f2:=zay (show ls.length+1<=1000 by omega)
   have f3:=zay (show 3<=1000 by omega)
   generalize zbE zbG zca N=rest at ih' ⊢
   generalize os.getD y.2.2 ([],0)=of at*
   generalize zbi of had=nw at*
   simp only [tI,zbT,List.map_append,qaM,List.map_nil] at eo en ih' eb
   simp only [zca]
   ac_nf0
   refine eb.wp fun h'' g'=> ?_
   have g2:=g.trans g'
   obtain ⟨t,rfl⟩:=g2
   have hla:=(qac.mp ea).1
   have ea':(h++t)[a]? = some (.lst (rs.map (wD os))):=by rw [qad hla];exact ea
   ac_nf0
   rw [en]
   ac_nf0
   simp only [zdx,zda,zbW,zaK,zaC,pure_bind,bind_assoc,zaj,zbN ea',zai]
   ac_nf0
   rw [zmR]
   ac_nf0
   rw [eo]
   ac_nf0
   rw [er]
   ac_nf0
   simp only [zbN ea',zaj,zai,qaH,f1,f3,zfa,pure_bind,zda,zbW]
   ac_nf0
   rw [f2]
   ac_nf0
   have hla':a<(h++t).length:=by rw [qav];omega
   refine ih' _ _ _ (qai hla') (fun j jl ja=> ?_) (by rw [qaI,qav];omega)
   rw [qao (Ne.symm ja),qad jl]
theorem zop (s:Stk m os) (hf:zek m os=true):Ev (F_41 [zbu m os]) (.lst ((zdU os 10 []).map (wD os))):=by
 have m1:=s.m1
 refine .of_wp fun h=> ?_
 rw [d_41]
 simp only [G_41]
 ac_nf0
 refine zjW s hf (a:=h.length) 10 (had:=[]) (ls:=[]) (rs:=[]) 1000 Ok.nil (fun t=>by rw [zfY];simp) (fun x hx=>by cases hx) (by simp) (by simp;omega) (by simp) (by simp) (by decide) fun y2 y3 y4 h' q1 q2 q3=> ?_
 ac_nf0
 rw [List.nil_append] at q3
 refine zlq q3 ?_
 ac_nf0
 have g:Gro h (h'.set h.length .dead):=Kp.gro ⟨by rw [qaI];simp at q2;omega,fun j hj=>by
   rw [qao (by omega),q1 j (by simp;omega) (by omega),qad hj]⟩
 first | exact ⟨trivial,g⟩ | exact ⟨g,trivial⟩ | exact ⟨rfl,g⟩ | exact g
theorem zhA {fs:FA} {sd:Sd}:zeT fs sd=(do let ds<-fs sd;zkd ds):=rfl
theorem zgu {s0:Option D}: ∀ (j k:Nat) (x3:Option D),k+j<=100-> ∃ y3,zaL (fun x sd=>do let sd1<-zaD 3 x sd;zb9 sd1) ((List.range' k j).map fun (k:Nat)=> .tup [.int 1,.int (1+(k:Int))]) [s0,some (.int (hT k:Int)),some (.int (fct k:Int)),x3]=pure (.nx [s0,some (.int (hT (k+j):Int)),some (.int (fct (k+j):Int)),y3])
 | 0,k,x3,_=>⟨x3,rfl⟩
 | j+1,k,x3,h=>by
  obtain ⟨y3,ih⟩:=zgu (s0:=s0) j (k+1) (some (.tup [.int 1,.int (1+(k:Int))])) (by omega)
  refine ⟨y3,?_⟩
  rw [List.range'_succ,qaM,zbr]
  rw [show k+(j+1)=k+1+j by omega, <-ih]
  generalize zaL (fun x sd=>do let sd1<-zaD 3 x sd;zb9 sd1) ((List.range' (k+1) j).map fun (k:Nat)=> .tup [.int 1,.int (1+(k:Int))])=rest
  simp only [zb9]
  ac_nf0
  rw [zc8 (by omega) (by omega),zd8 (by decide) (by decide)]
  ac_nf0
  rw [zc8 (by omega) (by omega)]
  ac_nf0
  have e1:(hT k:Int)*(1+(k:Int))+1*(fct k:Int)=((hT (k+1):Nat):Int):=by
   show _=((hT k*(k+1)+fct k:Nat):Int)
   rw [Int.natCast_add,Int.natCast_mul,Int.natCast_add,Int.one_mul,Int.add_comm 1 (k:Int)]
   rfl
  have e2:(fct k:Int)*(1+(k:Int))=((fct (k+1):Nat):Int):=by
   show _=((fct k*(k+1):Nat):Int)
   rw [Int.natCast_mul,Int.natCast_add,Int.add_comm 1 (k:Int)]
   rfl
  rw [e1,e2]
theorem zqX {n:Nat} (h:n<=100):F_4 [.lst ((List.range n).map fun (k:Nat)=> .tup [.int 1,.int (1+(k:Int))])]=pure (zbg (hT n) (fct n)):=by
 obtain ⟨y3,e⟩:=zgu (s0:=some (.lst ((List.range n).map fun (k:Nat)=> .tup [.int 1,.int (1+(k:Int))]))) n 0 none (by omega)
 rw [Nat.zero_add] at e
 rw [List.range_eq_range'] at e ⊢
 rw [d_4]
 simp only [G_4]
 simp only [zcN,pure_bind] at e
 ac_nf0
 rw [show D.int 0= .int ((hT 0:Nat):Int) from rfl,show D.int 1= .int ((fct 0:Nat):Int) from rfl]
 rw [show (fct 0:Nat)=1 from rfl] at e ⊢
 rw [show D.int ((1:Nat):Int)= .int 1 from rfl] at e ⊢
 rw [e]
 ac_nf0
 rw [zd3 (zdy n) (zkW h)]
 ac_nf0
noncomputable def zgO (n:Nat):D:=zbg (hT n) (fct n)
theorem ziq {d:D} (k:kn d=true):F_0 [d]=pure (.bl (isI d)):=by
 rw [d_0]
 simp only [G_0,zcU,zjG,zjZ,zaC,pure_bind,bind_assoc,zkF k,zna k,zdn,zjH]
 cases d<;>simp [isI]
theorem zij {n:Nat} (h:n<=100):F_25 [.int (n:Int)]=pure (zgO n):=by
 have ec:zaI (zeT (zac (cK (.int 1)) (zac (cOp zdJ (zag 0) (cK (.int 1))) zav))) (zaD 0) (fun _=>pure true) zbq [none] [some (.int (n:Int))]=pure (.lst ((List.range n).map fun (k:Nat)=> .tup [.int 1,.int (1+(k:Int))])):=by
  rw [show (List.range n).map (fun (k:Nat)=>D.tup [.int 1,.int (1+(k:Int))])=(List.range n).filterMap fun (k:Nat)=>some (.tup [.int 1,.int (1+(k:Int))]) by simp]
  refine zbX (g':=fun (k:Nat)=> .int (1+(k:Int))) ?_ (by simp;omega) fun k _=> ?_
  ·rw [zhA]
   ac_nf0
   exact zhF (by omega)
  ·have eb:zas [none] [some (D.int (n:Int))]=[none]:=rfl
   rw [eb]
   simp only [zbl,zbq]
   ac_nf0
 rw [d_25]
 simp only [G_25]
 ac_nf0
 rw [ziq rfl]
 simp only [isI]
 ac_nf0
 simp only [zpc]
 ac_nf0
 rw [show decide ((n:Int)<0)=false by rw [decide_eq_false_iff_not];omega]
 ac_nf0
 rw [show decide ((100:Int)<(n:Int))=false by rw [decide_eq_false_iff_not];omega]
 ac_nf0
 rw [ec]
 ac_nf0
 rw [zqX h]
 ac_nf0
 rfl
theorem zmu {d:D} (k:kn d=true) (h: ∀ z,d= .int z->z<0\/100<z):EvX (F_25 [d]) "NoNumber":=by
 rw [d_25]
 simp only [G_25]
 ac_nf0
 rw [ziq k]
 cases d with
 | int z=>
  simp only [isI]
  ac_nf0
  simp only [zpc]
  ac_nf0
  rcases h z rfl with hz | hz
  ·rw [decide_eq_true hz]
   ac_nf0
   exact .raise
  ·cases hd:decide (z<0)
   ·ac_nf0
    rw [decide_eq_true hz]
    ac_nf0
    exact .raise
   ·ac_nf0
    exact .raise
 | _=>
  simp only [isI]
  ac_nf0
  exact .raise
theorem zk3 {s0:Option D}: ∀ (j k:Nat) (x2:Option D),k+j<=100-> ∃ y2,zaL (fun x sd=>do let sd1<-zaD 2 x sd;zbC sd1) ((List.range' k j).map fun (k:Nat)=> .int (1+(k:Int))) [s0,some (.int (fct k:Int)),x2]=pure (.nx [s0,some (.int (fct (k+j):Int)),y2])
 | 0,k,x2,_=>⟨x2,rfl⟩
 | j+1,k,x2,h=>by
  obtain ⟨y2,ih⟩:=zk3 (s0:=s0) j (k+1) (some (.int (1+(k:Int)))) (by omega)
  refine ⟨y2,?_⟩
  rw [List.range'_succ,qaM,zbr]
  rw [show k+(j+1)=k+1+j by omega, <-ih]
  generalize zaL (fun x sd=>do let sd1<-zaD 2 x sd;zbC sd1) ((List.range' (k+1) j).map fun (k:Nat)=> .int (1+(k:Int)))=rest
  simp only [zbC]
  ac_nf0
  rw [zc8 (by omega) (by omega)]
  ac_nf0
  have e2:(fct k:Int)*(1+(k:Int))=((fct (k+1):Nat):Int):=by
   show _=((fct k*(k+1):Nat):Int)
   rw [Int.natCast_mul,Int.natCast_add,Int.add_comm 1 (k:Int)]
   rfl
  rw [e2]
theorem zix: ∀ xs:List Nat,(xs.map fun (z:Nat)=>(z:Int)).sum=((xs.sum:Nat):Int)
 | []=>rfl
 | x::r=>by rw [qaM,List.sum_cons,List.sum_cons,zix r,Int.natCast_add]
theorem zg2 {n:Nat} (h:n<=100):F_43 [.int (n:Int)]=pure (zgO n):=by
 obtain ⟨y2,e⟩:=zk3 (s0:=some (.int (n:Int))) n 0 none (by omega)
 rw [Nat.zero_add, <-List.range_eq_range'] at e
 have ec:zaI (zeT (zac (cK (.int 1)) (zac (cOp zdJ (zag 0) (cK (.int 1))) zav))) (zaD 0) (fun _=>pure true) zcp [none,some 1] [some (.int (n:Int)),some (.int (fct n:Int)),y2]=pure (.lst (((prt n).map fun (z:Nat)=>(z:Int)).map D.int)):=by
  unfold prt
  rw [qaT,qaT,show (List.range n).map ((D.int∘fun (z:Nat)=>(z:Int))∘fun k=>fct n / (1+k))=(List.range n).filterMap fun (k:Nat)=>some (.int ((fct n / (1+k):Nat):Int)) by simp [Function.comp_def]]
  refine zbX (g':=fun (k:Nat)=> .int (1+(k:Int))) ?_ (by simp;omega) fun k hk=> ?_
  ·rw [zhA]
   ac_nf0
   exact zhF (by omega)
  ·have hk:=List.mem_range.mp hk
   have eb:zas [none,some 1] [some (.int (n:Int)),some (.int (fct n:Int)),y2]=[none,some (.int (fct n:Int))]:=rfl
   rw [eb]
   simp only [zbl,zcp]
   ac_nf0
   rw [zf9 (by omega) (by omega)]
   ac_nf0
   rw [Int.natCast_ediv,Int.natCast_add]
   rfl
 rw [d_43]
 simp only [G_43]
 simp only [zcN,pure_bind] at e
 ac_nf0
 rw [zhA]
 ac_nf0
 rw [zhF (by omega)]
 ac_nf0
 rw [show (fct 0:Nat)=1 from rfl,show D.int ((1:Nat):Int)= .int 1 from rfl] at e
 rw [e]
 ac_nf0
 rw [ec]
 ac_nf0
 rw [zo7,zix,zkT]
 ac_nf0
 rw [zfQ (zdy n) (zkW h)]
 ac_nf0
 rfl
noncomputable abbrev Rw:=Nat×List Int
noncomputable def frD (os:List (List Int×Int)) (x:Rw):D:=zbg (os.getD x.1 ([],0)).2.toNat x.2.length
noncomputable def uN (os:List (List Int×Int)) (x:Rw):Nat:=(os.getD x.1 ([],0)).2.toNat / Nat.gcd (os.getD x.1 ([],0)).2.toNat x.2.length
noncomputable def vN (os:List (List Int×Int)) (x:Rw):Nat:=x.2.length / Nat.gcd (os.getD x.1 ([],0)).2.toNat x.2.length
noncomputable def tT (n:Nat):Nat:=hT n / Nat.gcd (hT n) (fct n)
noncomputable def tB (n:Nat):Nat:=fct n / Nat.gcd (hT n) (fct n)
noncomputable def lsD (os:List (List Int×Int)) (n:Nat) (x:Rw):D:=zbg (uN os x*tB n) (vN os x*tT n)
noncomputable def zgM (xs:List Rw):List (Int×Rw):=xs.flatMap fun x=>x.2.map fun t=>(t,x)
theorem zlj (s:Stk m os) (hf:zek m os=true): ∀ (f:Nat) (had:List Int),Ok m had->m<=had.length+f-> ∀ t:Int,0<=t->t<m->t∈had\/ ∃ x∈zdU os f had,t∈x.2
 | 0,had,o,hm,t,t0,t1=>by
  have m0:=s.m0
  have hl:=zb3 (by omega) o.nd o.bd
  exact .inl ((zhy (by omega) o.nd o.bd).mp (by omega) t t0 t1)
 | f+1,had,o,hm,t,t0,t1=>by
  have m0:=s.m0
  cases hb:zcw os had with
  | none=>
   have hc: ¬(had.length:Int)<m:=fun z=>by
    obtain ⟨y,e⟩:=(zeo s hf o).mp z
    rw [hb] at e
    cases e
   have hl:=zb3 (by omega) o.nd o.bd
   exact .inl ((zhy (by omega) o.nd o.bd).mp (by omega) t t0 t1)
  | some y=>
   rw [zew hb]
   obtain ⟨h1,h2,h3⟩:=zcA hb
   rcases zlj s hf f (had++zbi (os.getD y.2.2 ([],0)) had) (Ok.more s o h1) (by rw [qav];omega) t t0 t1 with z | ⟨x,hx,ht⟩
   ·rcases qaK.mp z with z | z
    ·exact .inl z
    ·exact .inr ⟨_,qau,z⟩
   ·exact .inr ⟨x,qan _ hx,ht⟩
noncomputable def zgn (os:List (List Int×Int)) (t:Nat):Option Rw:=zhP (zgM (zdU os 10 [])) (t:Int) none
theorem zhn (s:Stk m os) (hf:zek m os=true) {t:Nat} (ht:t<m.toNat): ∃ x,zgn os t=some x/\x∈zdU os 10 []:=by
 have m1:=s.m1
 have ex: ∃ x,zgn os t=some x:=by
  refine zgw _ (.inr ?_)
  rcases zlj s hf 10 [] Ok.nil (by simp;omega) (t:Int) (by omega) (by omega) with z | ⟨x,hx,hxt⟩
  ·cases z
  ·exact ⟨((t:Int),x),List.mem_flatMap.mpr ⟨x,hx,qaU.mpr ⟨_,hxt,rfl⟩⟩,rfl⟩
 obtain ⟨x,hx⟩:=ex
 refine ⟨x,hx,?_⟩
 rcases zir _ hx with z | ⟨a,ha,e⟩
 ·cases z
 ·obtain ⟨y,hy,hm⟩:=List.mem_flatMap.mp ha
  obtain ⟨w,_,rfl⟩:=qaU.mp hm
  exact e▸hy
theorem zfL (s:Stk m os) {x:Rw} (hx:x∈zdU os 10 []):0<x.2.length/\x.2.length<=10/\0<vN os x/\vN os x<=12:=by
 obtain ⟨w1,w2,w3,w4⟩:=ziA 10 [] x hx
 have mo:os.getD x.1 ([],0)∈os:=by simp [List.getD,w1]
 have ol:=s.olen _ mo
 have g0:=Nat.gcd_pos_of_pos_right (os.getD x.1 ([],0)).2.toNat w3
 have h1:vN os x<=x.2.length:=Nat.div_le_self _ _
 have h2:0<vN os x:=Nat.div_pos (Nat.gcd_le_right _ w3) g0
 omega
theorem zkO (s:Stk m os):(zgM (zdU os 10 [])).length<=100:=by
 have key: ∀ xs:List Rw,(∀ x∈xs,x.2.length<=10)->(zgM xs).length<=xs.length*10:=fun xs h=>by
  induction xs with
  | nil=>simp [zgM]
  | cons x r ih=>
   have h1:=h x qau
   have h2:=ih fun y hy=>h y (qan _ hy)
   unfold zgM at h2 ⊢
   rw [List.flatMap_cons,qav,qaH,qaE]
   omega
 have h1:=key (zdU os 10 []) fun x hx=>(zfL s hx).2.1
 have h2:=zic (os:=os) 10 []
 omega
theorem zlw {n:Nat} (h0:0<n) (h:n<=10):0<tT n/\tT n<=36288000/\0<tB n/\tB n<=3628800:=by
 obtain ⟨h1,h2⟩:=zsy n (by omega)
 have g0:=Nat.gcd_pos_of_pos_right (hT n) (zdy n)
 have t1:tT n<=hT n:=Nat.div_le_self _ _
 have t2:tB n<=fct n:=Nat.div_le_self _ _
 have t3:0<tT n:=Nat.div_pos (Nat.gcd_le_left _ (zqq h0)) g0
 have t4:0<tB n:=Nat.div_pos (Nat.gcd_le_right _ (zdy n)) g0
 omega
theorem zhM (s:Stk m os) {x:Rw} (hx:x∈zdU os 10 []) {n:Nat} (h0:0<n) (h:n<=10):0<vN os x*tT n/\vN os x*tT n<bb:=by
 obtain ⟨_,_,a1,a2⟩:=zfL s hx
 obtain ⟨b1,b2,_,_⟩:=zlw h0 h
 refine ⟨Nat.mul_pos a1 b1,qaw (m:=2^40) ?_ (zrq (n:=40) (by decide))⟩
 have:vN os x*tT n<=12*36288000:=Nat.mul_le_mul a2 b2
 have:(2:Nat)^40=1099511627776:=by decide
 omega
theorem zkg {c:Nat} {s0:Option D} {x:Rw}: ∀ (ts:List Int) {h:Hh} {kvs:List (Int×D)} {x3:Option D} {P:Out->Hh->Prop},h[c]? = some (.dic kvs)->kvs.length+ts.length<=500->
  (∀ y3,P (.nx [s0,some (.cel c),some (wD os x),y3]) (h.set c (.dic (zbh (frD os) kvs (ts.map fun t=>(t,x))))))->
  wp (zaL (fun x sd=>zaW (List.set sd 3 (some x))) (ts.map D.int) [s0,some (.cel c),some (wD os x),x3]) h P
 | [],h,kvs,x3,P,e,hl,k=>by
  rw [List.map_nil,zbS,zai]
  have:=k x3
  rw [show zbh (frD os) kvs ([].map fun t=>(t,x))=kvs from rfl,show h.set c (.dic kvs)=h from zer e] at this
  exact this
 | t::r,h,kvs,x3,P,e,hl,k=>by
  have hln:=(qac.mp e).1
  have pl:=zhV kvs t (frD os x)
  rw [qaE] at hl
  have ih:=fun (x3:Option D)=>zkg (c:=c) (s0:=s0) (x:=x) r (h:=h.set c (.dic (zfj kvs t (frD os x)))) (kvs:=zfj kvs t (frD os x)) (x3:=x3) (P:=P) (qai hln) (by omega) fun y3=>by
   rw [List.set_set]
   exact k y3
  have f1:=zay (show kvs.length+1<=1000 by omega)
  have a2:dIx (wD os x) (.int 2)=pure (frD os x):=rfl
  rw [qaM,zbr]
  generalize zaL (fun x sd=>zaW (List.set sd 3 (some x))) (r.map D.int)=rest at ih ⊢
  simp only [zaW]
  ac_nf0
  rw [a2]
  ac_nf0
  simp only [zmW]
  ac_nf0
  simp only [zm6]
  ac_nf0
  rw [zhK e]
  ac_nf0
  rw [f1]
  ac_nf0
  rw [zlr]
  ac_nf0
  exact ih _
theorem ziR (s:Stk m os) {c:Nat} {s0:Option D}: ∀ (xs:List Rw) {h:Hh} {kvs:List (Int×D)} {x2 x3:Option D} {P:Out->Hh->Prop},h[c]? = some (.dic kvs)->kvs.length+(zgM xs).length<=500->
  (∀ y2 y3,P (.nx [s0,some (.cel c),y2,y3]) (h.set c (.dic (zbh (frD os) kvs (zgM xs)))))->
  wp (zaL (fun x sd=>zaX (List.set sd 2 (some x))) (xs.map (wD os)) [s0,some (.cel c),x2,x3]) h P
 | [],h,kvs,x2,x3,P,e,hl,k=>by
  rw [List.map_nil,zbS,zai]
  have:=k x2 x3
  rw [show zbh (frD os) kvs (zgM [])=kvs from rfl,show h.set c (.dic kvs)=h from zer e] at this
  exact this
 | x::r,h,kvs,x2,x3,P,e,hl,k=>by
  have hln:=(qac.mp e).1
  have ea:zgM (x::r)=x.2.map (fun t=>(t,x))++zgM r:=List.flatMap_cons
  rw [ea] at hl k
  rw [qav,qaH] at hl
  have al:=zhz (f:=frD os) (x.2.map fun t=>(t,x)) kvs
  rw [qaH] at al
  have ih:=fun (x2 x3:Option D)=>ziR s (c:=c) (s0:=s0) r (h:=h.set c (.dic (zbh (frD os) kvs (x.2.map fun t=>(t,x))))) (kvs:=zbh (frD os) kvs (x.2.map fun t=>(t,x))) (x2:=x2) (x3:=x3) (P:=P) (qai hln) (by omega) fun y2 y3=>by
   have:=k y2 y3
   rw [zk1] at this
   rw [List.set_set]
   exact this
  have a1:dIx (wD os x) (.int 1)=pure (.tup (x.2.map D.int)):=rfl
  rw [qaM,zbr]
  generalize zaL (fun x sd=>zaX (List.set sd 2 (some x))) (r.map (wD os))=rest at ih ⊢
  simp only [zaX]
  ac_nf0
  rw [a1]
  ac_nf0
  refine zkg x.2 e (by omega) fun y3=> ?_
  ac_nf0
  exact ih _ _
noncomputable def frO (os:List (List Int×Int)) (t:Nat):D:=match zgn os t with
 | some x=>frD os x
 | none=> .non
noncomputable def lsO (os:List (List Int×Int)) (n t:Nat):D:=match zgn os t with
 | some x=>lsD os n x
 | none=> .non
theorem ziz {c:Nat} {h:Hh} {kvs:List (Int×D)} {f:Rw->D} (e:h[c]? = some (.dic kvs)) (ek: ∀ t:Nat,zec kvs (t:Int)=(zgn os t).map f) {t:Nat} {x:Rw} (hx:zgn os t=some x) {P:D->Hh->Prop} (k:P (f x) h):wp (zqJ (.cel c) (.int (t:Int))) h P:=by
 show wp (do let kvs<-zcy c;ofO (zec kvs (t:Int)):M D) h P
 rw [zaj,zhK e,ek,hx]
 show wp (pure (f x)) h P
 rw [zai]
 exact k
theorem zne {f:Rw->D} (t:Nat):zec (zbh f [] (zgM (zdU os 10 []))) (t:Int)=(zgn os t).map f:=zjx _ rfl
theorem znH {α:Type} {f:D->M α} {sd:Sd} {c:String} (x: ∀ n,EvX (f (.cel n)) c):EvX (zqw sd>>=f) c:=fun h=>by
 obtain ⟨h',e,g⟩:=x h.length (h++[.dic []])
 exact ⟨h',e,Gro.trans ⟨[.dic []],rfl⟩ g⟩
theorem zmx (s:Stk m os) (hf:zek m os=true):Ev (F_27 [zbu m os]) (.lst ((List.range m.toNat).map fun t=>frO os t)):=by
 have m0:=s.m0
 have m1:=s.m1
 have al:=zkO s
 refine .of_wp fun h=> ?_
 rw [d_27]
 simp only [G_27]
 ac_nf0
 rw [zlo]
 unfold zhH
 ac_nf0
 refine (zoZ s hf).wp fun h1 g1=> ?_
 obtain ⟨t,rfl⟩:=g1
 ac_nf0
 refine znn ?_
 have hln:h.length<(h++[C.dic []]++t).length:=by simp
 refine ziR s (c:=h.length) (zdU os 10 []) (kvs:=[]) (by simp) (by simp;omega) fun y2 y3=> ?_
 ac_nf0
 unfold zaI
 ac_nf0
 rw [zsr]
 ac_nf0
 rw [zcI (by omega) (by omega),zdb,qaT]
 ac_nf0
 rw [zay (by simp;omega)]
 ac_nf0
 refine zoV (g':=fun (t:Nat)=> .int (t:Int)) (k:=fun t=>some (frO os t)) (xs:=List.range m.toNat) (fun t ht=> ?_) ?_
 ·obtain ⟨x,hx,_⟩:=zhn s hf (List.mem_range.mp ht)
  rw [show zas [none,some 1] [some (zbu m os),some (.cel h.length),y2,y3]=[none,some (.cel h.length)] from rfl]
  simp only [zbl,zbH]
  ac_nf0
  refine ziz (qai hln) (fun t=>zne t) hx ?_
  ac_nf0
  refine ⟨?_,trivial⟩
  unfold frO
  rw [hx]
 ·rw [show (List.range m.toNat).filterMap (fun t=>some (frO os t))=(List.range m.toNat).map fun t=>frO os t by simp]
  ac_nf0
  refine ⟨trivial,Kp.gro ⟨by rw [qaI];simp,fun j hj=> ?_⟩⟩
  rw [qao (by omega),List.append_assoc,qad hj]
theorem zlO (s:Stk m os) (hf:zek m os=false):EvX (F_27 [zbu m os]) "NotFull":=by
 rw [d_27]
 simp only [G_27]
 ac_nf0
 refine znH fun n=> ?_
 unfold zhH
 ac_nf0
 exact EvX.left (zoe s hf)
noncomputable def zlC (os:List (List Int×Int)):List Int:=os.map fun o=>(o.1.length:Int)
noncomputable def mxN (os:List (List Int×Int)):Nat:=(zjo (zlC os)).toNat
theorem znG (s:Stk m os) (hf:zek m os=true):zjo (zlC os)=(mxN os:Int)/\0<mxN os/\mxN os<=10/\0<(zlC os).length:=by
 have m0:=s.m0
 obtain ⟨o,ho,_⟩:=(zf8 s).mp hf 0 (by omega) (by omega)
 have hl:0<(zlC os).length:=by
  unfold zlC
  rw [qaH]
  exact List.length_pos_of_mem ho
 obtain ⟨o',ho',e⟩:=qaU.mp (zmF hl)
 have e:(o'.1.length:Int)=zjo (zlC os):=e
 have h1:=s.olen o' ho'
 have h2:=List.length_pos_iff.mpr (s.ne o' ho')
 unfold mxN
 omega
noncomputable def zpa (m:Int) (os:List (List Int×Int)):D:= .tup ((List.range m.toNat).map fun t=>lsO os (mxN os) t)
theorem zoT (s:Stk m os) (hf:zek m os=true):Ev (F_26 [zbu m os]) (zpa m os):=by
 have m0:=s.m0
 have m1:=s.m1
 have ol:=s.len
 obtain ⟨x1,x2,x3,x4⟩:=znG s hf
 have e1: ∀ {y1 y2:Option D},zaI (iSq (cOp dIx (zag 0) (cK (.int 1)))) (zaD 0) (fun _=>pure true) zc7 [none] [some (zbu m os),y1,y2]=pure (.lst ((zlC os).map D.int)):=fun {y1 y2}=>by
  unfold zlC
  rw [qaT,show os.map (D.int∘fun o=>(o.1.length:Int))=os.filterMap fun o=>some (.int (o.1.length:Int)) by simp [Function.comp_def]]
  refine zbX (g':=zbT) (by ac_nf0;rw [zmR];ac_nf0) (by omega) fun o _=> ?_
  have eb:zas [none] [some (zbu m os),y1,y2]=[none]:=rfl
  rw [eb]
  simp only [zbl,zc7]
  ac_nf0
 have e2:zaI (iSq (zag 1)) (zaD 0) (fun _=>pure true) zc2 [none,some 2] [some (zbu m os),some (.lst ((List.range m.toNat).map fun t=>frO os t)),some (zgO (mxN os))]=pure (.lst ((List.range m.toNat).map fun t=>lsO os (mxN os) t)):=by
  rw [show (List.range m.toNat).map (fun t=>lsO os (mxN os) t)=(List.range m.toNat).filterMap fun t=>some (lsO os (mxN os) t) by simp]
  refine zbX (g':=frO os) (by ac_nf0) (by simp;omega) fun t ht=> ?_
  obtain ⟨x,hx,hm⟩:=zhn s hf (List.mem_range.mp ht)
  obtain ⟨_,_,v0,v1⟩:=zfL s hm
  obtain ⟨t0,t1,b0,b1⟩:=zlw x2 x3
  obtain ⟨p0,p1⟩:=zhM s hm x2 x3
  have er:=zd3 (p:=uN os x*tB (mxN os)) p0 p1
  rw [Int.natCast_mul,Int.natCast_mul] at er
  have f1:frO os t= .tup [.int (uN os x:Int),.int (vN os x:Int)]:=by
   unfold frO
   rw [hx]
   rfl
  have f2:lsO os (mxN os) t=lsD os (mxN os) x:=by
   unfold lsO
   rw [hx]
  have f3:zgO (mxN os)= .tup [.int (tT (mxN os):Int),.int (tB (mxN os):Int)]:=rfl
  rw [show zas [none,some 2] [some (zbu m os),some (.lst ((List.range m.toNat).map fun t=>frO os t)),some (zgO (mxN os))]=[none,some (zgO (mxN os))] from rfl,f1,f2,f3]
  simp only [zbl,zc2]
  ac_nf0
  rw [zc8 (by omega) (by omega),zd8 (by omega) (by omega)]
  ac_nf0
  rw [er]
  ac_nf0
  rfl
 have es:=zij (n:=mxN os) (by omega)
 refine .of_wp fun h=> ?_
 rw [d_26]
 simp only [G_26]
 ac_nf0
 refine (zmx s hf).wp fun h1 g1=> ?_
 ac_nf0
 rw [e1]
 ac_nf0
 rw [znm x4,x1]
 ac_nf0
 rw [es]
 ac_nf0
 rw [e2]
 ac_nf0
 first | exact ⟨rfl,g1⟩ | exact ⟨g1,rfl⟩ | exact g1
theorem znz (s:Stk m os) (hf:zek m os=false):EvX (F_26 [zbu m os]) "NotFull":=by
 rw [d_26]
 simp only [G_26]
 ac_nf0
 exact EvX.left (zlO s hf)
theorem ziL {n c:Nat} {s0 s4 s5:Option D} {x:Rw} (b1:tB n<=3628800) (v1:vN os x<=12) (er:F_37 [.int ((uN os x:Int)*(tB n:Int)),.int ((vN os x:Int)*(tT n:Int))]=pure (lsD os n x)): ∀ (ts:List Int) {h:Hh} {kvs:List (Int×D)} {x7:Option D} {P:Out->Hh->Prop},h[c]? = some (.dic kvs)->kvs.length+ts.length<=500->
  (∀ y7,P (.nx [s0,some (.int (tT n:Int)),some (.int (tB n:Int)),some (.cel c),s4,s5,some (.tup [.int (uN os x:Int),.int (vN os x:Int)]),y7]) (h.set c (.dic (zbh (lsD os n) kvs (ts.map fun t=>(t,x))))))->
  wp (zaL (fun x sd=>zcc (List.set sd 7 (some x))) (ts.map D.int) [s0,some (.int (tT n:Int)),some (.int (tB n:Int)),some (.cel c),s4,s5,some (.tup [.int (uN os x:Int),.int (vN os x:Int)]),x7]) h P
 | [],h,kvs,x7,P,e,hl,k=>by
  rw [List.map_nil,zbS,zai]
  have:=k x7
  rw [show zbh (lsD os n) kvs ([].map fun t=>(t,x))=kvs from rfl,show h.set c (.dic kvs)=h from zer e] at this
  exact this
 | t::r,h,kvs,x7,P,e,hl,k=>by
  have hln:=(qac.mp e).1
  have pl:=zhV kvs t (lsD os n x)
  rw [qaE] at hl
  have ih:=fun (x7:Option D)=>ziL (n:=n) (c:=c) (s0:=s0) (s4:=s4) (s5:=s5) (x:=x) b1 v1 er r (h:=h.set c (.dic (zfj kvs t (lsD os n x)))) (kvs:=zfj kvs t (lsD os n x)) (x7:=x7) (P:=P) (qai hln) (by omega) fun y7=>by
   rw [List.set_set]
   exact k y7
  have f1:=zay (show kvs.length+1<=1000 by omega)
  rw [qaM,zbr]
  generalize zaL (fun x sd=>zcc (List.set sd 7 (some x))) (r.map D.int)=rest at ih ⊢
  simp only [zcc]
  ac_nf0
  rw [zc8 (by omega) (by omega),zd8 (by omega) (by omega)]
  ac_nf0
  rw [er]
  ac_nf0
  simp only [zmW]
  ac_nf0
  simp only [zm6]
  ac_nf0
  rw [zhK e]
  ac_nf0
  rw [f1]
  ac_nf0
  rw [zlr]
  ac_nf0
  exact ih _
theorem zgp (s:Stk m os) {n c:Nat} (n0:0<n) (n1:n<=10) {s0:Option D}: ∀ (xs:List Rw) {h:Hh} {kvs:List (Int×D)} {x4 x5 x6 x7:Option D} {P:Out->Hh->Prop},(∀ x∈xs,x∈zdU os 10 [])->h[c]? = some (.dic kvs)->kvs.length+(zgM xs).length<=500->
  (∀ y4 y5 y6 y7,P (.nx [s0,some (.int (tT n:Int)),some (.int (tB n:Int)),some (.cel c),y4,y5,y6,y7]) (h.set c (.dic (zbh (lsD os n) kvs (zgM xs)))))->
  wp (zaL (fun x sd=>do let sd1<-zbO 3 (zaw (zaD 4) (zaw (zaD 5) (zaw (zaD 6) zbR))) x sd;zce sd1) (xs.map (wD os)) [s0,some (.int (tT n:Int)),some (.int (tB n:Int)),some (.cel c),x4,x5,x6,x7]) h P
 | [],h,kvs,x4,x5,x6,x7,P,_,e,hl,k=>by
  rw [List.map_nil,zbS,zai]
  have:=k x4 x5 x6 x7
  rw [show zbh (lsD os n) kvs (zgM [])=kvs from rfl,show h.set c (.dic kvs)=h from zer e] at this
  exact this
 | x::r,h,kvs,x4,x5,x6,x7,P,hx,e,hl,k=>by
  have hln:=(qac.mp e).1
  have hm:=hx x qau
  obtain ⟨_,_,v0,v1⟩:=zfL s hm
  obtain ⟨t0,t1,b0,b1⟩:=zlw n0 n1
  obtain ⟨p0,p1⟩:=zhM s hm n0 n1
  have er:=zfQ (p:=uN os x*tB n) p0 p1
  rw [Int.natCast_mul,Int.natCast_mul] at er
  have ea:zgM (x::r)=x.2.map (fun t=>(t,x))++zgM r:=List.flatMap_cons
  rw [ea] at hl k
  rw [qav,qaH] at hl
  have al:=zhz (f:=lsD os n) (x.2.map fun t=>(t,x)) kvs
  rw [qaH] at al
  have ih:=fun (x4 x5 x6 x7:Option D)=>zgp s (n:=n) (c:=c) n0 n1 (s0:=s0) r (h:=h.set c (.dic (zbh (lsD os n) kvs (x.2.map fun t=>(t,x))))) (kvs:=zbh (lsD os n) kvs (x.2.map fun t=>(t,x))) (x4:=x4) (x5:=x5) (x6:=x6) (x7:=x7) (P:=P) (fun y hy=>hx y (qan _ hy)) (qai hln) (by omega) fun y4 y5 y6 y7=>by
   have:=k y4 y5 y6 y7
   rw [zk1] at this
   rw [List.set_set]
   exact this
  have eg:zbO 3 (zaw (zaD 4) (zaw (zaD 5) (zaw (zaD 6) zbR))) (wD os x) [s0,some (.int (tT n:Int)),some (.int (tB n:Int)),some (.cel c),x4,x5,x6,x7]=pure [s0,some (.int (tT n:Int)),some (.int (tB n:Int)),some (.cel c),some (.int (x.1:Int)),some (.tup (x.2.map D.int)),some (.tup [.int (uN os x:Int),.int (vN os x:Int)]),x7]:=rfl
  rw [qaM,zbr]
  generalize zaL (fun x sd=>do let sd1<-zbO 3 (zaw (zaD 4) (zaw (zaD 5) (zaw (zaD 6) zbR))) x sd;zce sd1) (r.map (wD os))=rest at ih ⊢
  rw [eg]
  simp only [zce]
  ac_nf0
  refine ziL b1 v1 er x.2 e (by omega) fun y7=> ?_
  ac_nf0
  exact ih _ _ _ _
theorem zpD (s:Stk m os) (hf:zek m os=true):Ev (F_44 [zbu m os]) (zpa m os):=by
 have m0:=s.m0
 have m1:=s.m1
 have ol:=s.len
 have al:=zkO s
 obtain ⟨x1,x2,x3,x4⟩:=znG s hf
 have e1:zaI (iSq (cOp dIx (zag 0) (cK (.int 1)))) (zbO 2 (zaw (zaD 0) (zaw (zaD 1) zbR))) (fun _=>pure true) zc9 [none,none] [some (zbu m os),none,none,none,none,none,none,none]=pure (.lst ((zlC os).map D.int)):=by
  unfold zlC
  rw [qaT,show os.map (D.int∘fun o=>(o.1.length:Int))=os.filterMap fun o=>some (.int (o.1.length:Int)) by simp [Function.comp_def]]
  refine zbX (g':=zbT) (by ac_nf0;rw [zmR];ac_nf0) (by omega) fun o _=> ?_
  rw [show zas [none,none] [some (zbu m os),none,none,none,none,none,none,none]=[none,none] from rfl]
  simp only [zbl,zc9]
  ac_nf0
 have es:=zg2 (n:=mxN os) (by omega)
 have eg: ∀ {y3 y4 y5 y6 y7:Option D},zbO 2 (zaw (zaD 1) (zaw (zaD 2) zbR)) (zgO (mxN os)) [some (zbu m os),none,none,y3,y4,y5,y6,y7]=pure [some (zbu m os),some (.int (tT (mxN os):Int)),some (.int (tB (mxN os):Int)),y3,y4,y5,y6,y7]:=rfl
 refine .of_wp fun h=> ?_
 rw [d_44]
 simp only [G_44]
 ac_nf0
 rw [e1]
 ac_nf0
 rw [znm x4,x1]
 ac_nf0
 rw [es]
 ac_nf0
 rw [eg]
 ac_nf0
 rw [zlo]
 ac_nf0
 refine (zop s hf).wp fun h1 g1=> ?_
 obtain ⟨t,rfl⟩:=g1
 ac_nf0
 have hln:h.length<(h++[C.dic []]++t).length:=by simp
 refine zgp s (c:=h.length) x2 x3 (zdU os 10 []) (kvs:=[]) (fun x hx=>hx) (by simp) (by simp;omega) fun y4 y5 y6 y7=> ?_
 ac_nf0
 unfold zaI
 ac_nf0
 rw [zsr]
 ac_nf0
 rw [zcI (by omega) (by omega),zdb,qaT]
 ac_nf0
 rw [zay (by simp;omega)]
 ac_nf0
 refine zoV (g':=fun (t:Nat)=> .int (t:Int)) (k:=fun t=>some (lsO os (mxN os) t)) (xs:=List.range m.toNat) (fun t ht=> ?_) ?_
 ·obtain ⟨x,hx,_⟩:=zhn s hf (List.mem_range.mp ht)
  rw [show zas [none,some 3] [some (zbu m os),some (.int (tT (mxN os):Int)),some (.int (tB (mxN os):Int)),some (.cel h.length),y4,y5,y6,y7]=[none,some (.cel h.length)] from rfl]
  simp only [zbl,zeg]
  ac_nf0
  refine ziz (qai hln) (fun t=>zne t) hx ?_
  ac_nf0
  refine ⟨?_,trivial⟩
  unfold lsO
  rw [hx]
 ·rw [show (List.range m.toNat).filterMap (fun t=>some (lsO os (mxN os) t))=(List.range m.toNat).map fun t=>lsO os (mxN os) t by simp]
  ac_nf0
  have g:Gro h ((h++[C.dic []]++t).set h.length (.dic (zbh (lsD os (mxN os)) [] (zgM (zdU os 10 []))))):=Kp.gro ⟨by rw [qaI];simp,fun j hj=>by
    rw [qao (by omega),List.append_assoc,qad hj]⟩
  first | (rw [List.append_assoc] at g;exact ⟨g,rfl⟩) | exact ⟨rfl,g⟩ | exact ⟨trivial,g⟩ | exact ⟨g,rfl⟩ | exact g
theorem zil {F0 F1:List D->M D}:zhd [F0,F1] (.int 0)=pure F0:=rfl
theorem ziM {F0 F1:List D->M D}:zhd [F0,F1] (.int 1)=pure F1:=rfl
theorem zr0:F_32 [.exn "NotFull"]=pure (.str "! full"):=by
 funext h
 rfl
theorem zsC:F_32 [.exn "NoNumber"]=pure (.str "! number"):=by
 funext h
 rfl
theorem zhJ {n:Nat} (h:n<=100):F_42 [.int 0,.int (n:Int)]=pure (zgO n):=by
 have es:=zij h
 generalize zgO n=d at es
 rw [d_42]
 simp only [G_42]
 rw [zkV (o:= .rt d)]
 ·ac_nf0
 ·ac_nf0
  rw [zil]
  ac_nf0
  rw [es]
  ac_nf0
theorem zn4 {d:D} (k:kn d=true) (h: ∀ z,d= .int z->z<0\/100<z):Ev (F_42 [.int 0,d]) (.str "! number"):=by
 have es:=zmu k h
 rw [d_42]
 simp only [G_42]
 refine Ev.bind (zib (c:="NoNumber") (d:= .str "! number") ?_ rfl zsC) (.of (by ac_nf0))
 ac_nf0
 rw [zil]
 ac_nf0
 exact EvX.left es
theorem znT (s:Stk m os) (hf:zek m os=true):Ev (F_42 [.int 1,zbu m os]) (zpa m os):=by
 rw [d_42]
 simp only [G_42]
 refine Ev.bind (znU (o:= .rt (zpa m os)) ?_) (.of (by ac_nf0))
 ac_nf0
 rw [ziM]
 ac_nf0
 exact Ev.bind (zoT s hf) (.of rfl)
theorem znL (s:Stk m os) (hf:zek m os=false):Ev (F_42 [.int 1,zbu m os]) (.str "! full"):=by
 rw [d_42]
 simp only [G_42]
 refine Ev.bind (zib (c:="NotFull") (d:= .str "! full") ?_ rfl zr0) (.of (by ac_nf0))
 ac_nf0
 rw [ziM]
 ac_nf0
 exact EvX.left (znz s hf)
theorem zqa (s:Stk m os) (hf:zek m os=true): ∃ ps:List (Nat×Nat),zpa m os= .tup (ps.map fun p=>zbg p.1 p.2)/\(∀ p∈ps,0<p.2/\p.2<bb)/\ps.length<=10:=by
 have m1:=s.m1
 obtain ⟨_,x2,x3,_⟩:=znG s hf
 refine ⟨(List.range m.toNat).map fun t=>match zgn os t with | some x=>(uN os x*tB (mxN os),vN os x*tT (mxN os)) | none=>(0,1),?_,fun p hp=> ?_,by simp;omega⟩
 ·unfold zpa
  rw [qaT]
  congr 1
  refine List.map_congr_left fun t ht=> ?_
  obtain ⟨x,hx,_⟩:=zhn s hf (List.mem_range.mp ht)
  simp only [lsO,Function.comp,hx]
  rfl
 ·obtain ⟨t,ht,rfl⟩:=qaU.mp hp
  obtain ⟨x,hx,hm⟩:=zhn s hf (List.mem_range.mp ht)
  simp only [hx]
  exact zhM s hm x2 x3
theorem zn8 {ps:List (Nat×Nat)}:ps.map (fun p=>zbg p.1 p.2)=(ps.map fun p=>[((p.1 / Nat.gcd p.1 p.2:Nat):Int),((p.2 / Nat.gcd p.1 p.2:Nat):Int)]).map tI:=by
 rw [qaT]
 rfl
theorem zri (s:Stk m os) (hc: ∀ i:Int,0<=i->i<m-> ∃ o∈os.map zbT, ∃ (xs:List Int) (p:Int),o= .tup [.tup (xs.map D.int),.int p]/\i∈xs):zek m os=true:=by
 refine (zf8 s).mpr fun t t0 t1=> ?_
 obtain ⟨o,ho,xs,p,rfl,hx⟩:=hc t t0 t1
 obtain ⟨o',ho',e⟩:=qaU.mp ho
 refine ⟨o',ho',?_⟩
 have e1:o'.1.map D.int=xs.map D.int:=by
  simp only [zbT,tI] at e
  injection e with e
  injection e with e _
  injection e
 have e2:o'.1=xs:=(List.map_inj_right fun a b h=>by injection h).mp e1
 rw [e2]
 exact hx
theorem zqF (s:Stk m os) (h: ∃ t:Int,0<=t/\t<m/\ ∀ o∈os,t∉o.1):zek m os=false:=by
 obtain ⟨t,t0,t1,hn⟩:=h
 cases hb:zek m os with
 | false=>rfl
 | true=>
  obtain ⟨o,ho,hx⟩:=(zf8 s).mp hb t t0 t1
  exact absurd hx (hn o ho)
theorem zmb {ps:List (Nat×Nat)} {sd:Sd} {fi:FA} (hi:fi sd=pure (ps.map fun p=>zbg p.1 p.2)) (hp: ∀ p∈ps,0<p.2/\p.2<bb) (hl:ps.length<=10):zaI fi (zaD 0) (fun _=>pure true) zf7 [none] sd=pure (.lst ((ps.map fun _=>true).map D.bl)):=by
 rw [qaT,show ps.map (D.bl∘fun _=>true)=ps.filterMap fun _=>some (.bl true) by simp [Function.comp_def]]
 refine zbX (g':=fun p:Nat×Nat=>zbg p.1 p.2) hi (by omega) fun p hpm=> ?_
 have ef:=zgG (p:=p.1) (hp p hpm).1 (hp p hpm).2
 rw [show zas [none] sd=[none] from rfl]
 simp only [zbl,zf7]
 generalize zbg p.1 p.2=d at ef
 ac_nf0
 rw [ef]
 ac_nf0
theorem zrx {t:Int} (t0:0<=t) (t1:t<7): ∃ d,atI [D.int (-1),.int 101,.bl true,.non,.str "3",.tup [.int 1],.int (10^30)] t=some d/\kn d=true/\ ∀ z,d= .int z->z<0\/100<z:=by
 have:t=0\/t=1\/t=2\/t=3\/t=4\/t=5\/t=6:=by omega
 rcases this with rfl | rfl | rfl | rfl | rfl | rfl | rfl
 ·exact ⟨_,rfl,rfl,fun z e=>by cases e;exact .inl (by decide)⟩
 ·exact ⟨_,rfl,rfl,fun z e=>by cases e;exact .inr (by decide)⟩
 ·exact ⟨_,rfl,rfl,fun z e=>by cases e⟩
 ·exact ⟨_,rfl,rfl,fun z e=>by cases e⟩
 ·exact ⟨_,rfl,rfl,fun z e=>by cases e⟩
 ·exact ⟨_,rfl,rfl,fun z e=>by cases e⟩
 ·exact ⟨_,rfl,rfl,fun z e=>by cases e;exact .inr (by decide)⟩
theorem zii {ns:List Int}: ∀ (ds:List D) {h:Hh} {x1 x2 x3 x4 x5:Option D},(∀ d∈ds, ∃ i:Int,d= .int i/\0<=i/\i<5)->
  wp (zaL (fun x sd=>do let sd1<-zaD 1 x sd;zeR sd1) ds [some (.scr (ns.map D.int)),x1,x2,x3,x4,x5]) h fun o _=> ∃ sd,o= .nx sd
 | [],h,x1,x2,x3,x4,x5,_=>by rw [zbS,zai];exact ⟨_,rfl⟩
 | d::r,h,x1,x2,x3,x4,x5,hd=>by
  obtain ⟨i,rfl,i0,i1⟩:=hd _ qau
  have ih: ∀ {h:Hh} {x1 x2 x3 x4 x5:Option D},wp (zaL (fun x sd=>do let sd1<-zaD 1 x sd;zeR sd1) r [some (.scr (ns.map D.int)),x1,x2,x3,x4,x5]) h fun o _=> ∃ sd,o= .nx sd:=zii r fun y hy=>hd y (qan _ hy)
  rw [zbr]
  generalize zaL (fun x sd=>do let sd1<-zaD 1 x sd;zeR sd1) r=rest at ih ⊢
  simp only [zeR]
  ac_nf0
  refine zpT i0 i1 fun z=> ?_
  have qb:Bx h.length (h++[.lst [.int z]]):=⟨z,by simp⟩
  generalize h.length=b at qb ⊢
  generalize h++[.lst [.int z]]=h1 at qb ⊢
  ac_nf0
  refine zbk qb (by decide) (by decide) fun t1 h2 t10 t11 x2'=> ?_
  ac_nf0
  refine zbk x2'.1 (by decide) (by decide) fun t2 h3 t20 t21 x3'=> ?_
  ac_nf0
  refine zbk x3'.1 (by decide) (by decide) fun t3 h4 t30 t31 x4'=> ?_
  obtain ⟨n,en,hn⟩: ∃ n:Nat,atI [D.int t1,.int t2,.int 100] t3=some (.int (n:Int))/\n<=100:=by
   have:t3=0\/t3=1\/t3=2:=by omega
   rcases this with rfl | rfl | rfl
   ·exact ⟨t1.toNat,by rw [show ((t1.toNat:Nat):Int)=t1 by omega];rfl,by omega⟩
   ·exact ⟨t2.toNat,by rw [show ((t2.toNat:Nat):Int)=t2 by omega];rfl,by omega⟩
   ·exact ⟨100,rfl,by decide⟩
  have e1:=zhJ hn
  have e2:F_38 [zgO n]=pure (.bl true):=zgG (zdy n) (zkW hn)
  have e3:=zg2 hn
  have e4:dNe (zgO n) (zgO n)=pure (.bl false):=by
   have:=znf [((hT n / Nat.gcd (hT n) (fct n):Nat):Int),((fct n / Nat.gcd (hT n) (fct n):Nat):Int)] [((hT n / Nat.gcd (hT n) (fct n):Nat):Int),((fct n / Nat.gcd (hT n) (fct n):Nat):Int)]
   rw [beq_self_eq_true] at this
   exact this
  generalize zgO n=dn at e1 e2 e3 e4
  ac_nf0
  rw [en]
  ac_nf0
  rw [e1]
  ac_nf0
  rw [e2]
  ac_nf0
  rw [e3]
  ac_nf0
  rw [e4]
  ac_nf0
  rw [zq4]
  ac_nf0
  refine zbk x4'.1 (by decide) (by decide) fun t5 h5 t50 t51 x5'=> ?_
  obtain ⟨od,eo,ok,oz⟩:=zrx t50 t51
  ac_nf0
  rw [eo]
  ac_nf0
  refine (zn4 ok oz).wp fun h6 g6=> ?_
  have q6:=(Gro.ext x5'.1 g6).1
  ac_nf0
  rw [zk7 _ _ zie zie]
  ac_nf0
  simp only [beq_self_eq_true]
  ac_nf0
  refine znP (by decide) (by decide) q6 fun m ods h7 q7 m0 m1 l0 l1 ho hc=> ?_
  obtain ⟨os,rfl,s⟩:=zno m0 m1 l1 ho
  have hf:=zri s hc
  rw [show D.tup [.int m,.tup (os.map zbT)]=zbu m os from rfl]
  obtain ⟨ps,ep,hp,hpl⟩:=zqa s hf
  have a1:=znT s hf
  have a2:=zpD s hf
  rw [ep] at a1 a2
  have et:zhO "tuple" (.tup (ps.map fun p=>zbg p.1 p.2))=pure (.bl true):=zm5 rfl
  have en:=zlW (ps.map fun p=>[((p.1 / Nat.gcd p.1 p.2:Nat):Int),((p.2 / Nat.gcd p.1 p.2:Nat):Int)])
  rw [<- zn8] at en
  have ec: ∀ {s0 s1 s2 s3 s5:Option D},zaI (iSq (zag 4)) (zaD 0) (fun _=>pure true) zf7 [none] [s0,s1,s2,s3,some (.tup (ps.map fun p=>zbg p.1 p.2)),s5]=pure (.lst ((ps.map fun _=>true).map D.bl)):=fun {s0 s1 s2 s3 s5}=>zmb (by ac_nf0) hp hpl
  have ea:(ps.map fun _=>true).all id=true:=by simp
  generalize ps.map (fun p=>zbg p.1 p.2)=fs at a1 a2 et en ec
  ac_nf0
  refine a1.wp fun h8 g8=> ?_
  have q8:=(Gro.ext q7 g8).1
  ac_nf0
  rw [et]
  ac_nf0
  rw [ec]
  ac_nf0
  rw [znY,ea]
  ac_nf0
  refine a2.wp fun h9 g9=> ?_
  have q9:=(Gro.ext q8 g9).1
  ac_nf0
  rw [en]
  ac_nf0
  refine zl8 s q9 fun os' h10 s' hno x10'=> ?_
  have hf':=zqF s' hno
  ac_nf0
  refine (znL s' hf').wp fun h11 g11=> ?_
  ac_nf0
  rw [zk7 _ _ zmI zmI]
  ac_nf0
  simp only [beq_self_eq_true]
  ac_nf0
  exact ih
theorem zmG: ∀ ns:List Int,ns.length<=63-> ∃ h',F_45 [.scr (ns.map D.int)] []= .ok (.bl true) h':=by
 intro ns _
 have key:wp (F_45 [.scr (ns.map D.int)]) [] fun d _=>d= .bl true:=by
  rw [d_45]
  simp only [G_45]
  ac_nf0
  simp only [zm2]
  ac_nf0
  simp only [zsv]
  ac_nf0
  generalize hn:(if (if (4:Int)<(ns.length:Int) then (4:Int) else (ns.length:Int))>1 then (if (4:Int)<(ns.length:Int) then (4:Int) else (ns.length:Int)) else (1:Int))=n
  have n0:0<=n/\n<=5:=by
   rw [<- hn]
   split<;>split<;>omega
  rw [zcI n0.1 (by omega)]
  ac_nf0
  refine zhv (zii _ fun d hd=> ?_) ?_
  ·obtain ⟨i,e,i0,i1⟩:=zgd hd
   exact ⟨i,e,i0,by omega⟩
  ·rintro o h' ⟨sd,rfl⟩
   have e0:=zhJ (n:=0) (by decide)
   have e1:=zhJ (n:=1) (by decide)
   have f0:zgO 0=tI [0,1]:=by simp [zgO,zbg,tI,hT,fct]
   have f1:zgO 1=tI [1,1]:=by simp [zgO,zbg,tI,hT,fct]
   have d0:=zky [0,1] [0,1]
   have d1:=zky [1,1] [1,1]
   rw [f0] at e0
   rw [f1] at e1
   simp only [tI,qaM,List.map_nil] at e0 e1 d0 d1
   rw [show ((0:Nat):Int)=0 from rfl] at e0
   rw [show ((1:Nat):Int)=1 from rfl] at e1
   ac_nf0
   rw [e0]
   ac_nf0
   rw [d0]
   ac_nf0
   simp only [beq_self_eq_true]
   ac_nf0
   rw [e1]
   ac_nf0
   rw [d1]
   ac_nf0
   simp only [beq_self_eq_true]
 obtain ⟨d,h',e,rfl⟩:=key
 exact ⟨h',e⟩
end K23
namespace K23
open PySem PySem.Spec PyProof.Rows L2 L3
theorem zqL {l:W.OpenLaw} {w:World} {K:W.Frag} {h:Heap} {mg:Str->Option Value} {fa a_5 a_6 a_7 a_8 a_9 a_10 a_11 a_12 a_13 a_14 a_15 a_16 a_28 a_29 a_30 a_32 a_0 a_2 a_1 a_4 a_25 a_19 a_20 a_17 a_18 a_24 a_23 a_3 a_22 a_21 a_27 a_26 a_42 a_37 a_43 a_31 a_38 a_33 a_34 a_36 a_39 a_40 a_41 a_44 a_35 a_45:Addr} (X:K.In h) (G:h.Ns mainGlobals mg) (hfa:mg "law"=some (.ref fa))
  {od_45 an_45:Option Addr} {sl_45:Array (Option Value)} {oc_45 kV_45 dc_45 pm_45 cd_45 ct_45:Value}
  {d_28 d_29 d_30 d_32 d_0 d_2 d_1 d_4 d_25 d_19 d_20 d_17 d_18 d_24 d_23 d_3 d_22 d_21 d_27 d_26 d_42 d_37 d_43 d_31 d_38 d_33 d_34 d_36 d_39 d_40 d_41 d_44 d_35:FuncData}
  {tk_MOST_STEPS:Tok}
  (f_28:Fd K "_law_cell" s_28 a_28 d_28)
  (f_29:Fd K "_law_box" s_29 a_29 d_29)
  (f_30:Fd K "_law_take" s_30 a_30 d_30)
  (f_32:Fd K "_law_kind" s_32 a_32 d_32)
  (f_0:Fd K "is_whole" s_0 a_0 d_0)
  (f_2:Fd K "greatest_divisor" s_2 a_2 d_2)
  (f_1:Fd K "reduced" s_1 a_1 d_1)
  (f_4:Fd K "together" s_4 a_4 d_4)
  (f_25:Fd K "steps_together" s_25 a_25 d_25)
  (f_19:Fd K "things_together" s_19 a_19 d_19)
  (f_20:Fd K "have_all" s_20 a_20 d_20)
  (f_17:Fd K "is_full" s_17 a_17 d_17)
  (f_18:Fd K "need_full" s_18 a_18 d_18)
  (f_24:Fd K "new_things" s_24 a_24 d_24)
  (f_23:Fd K "bargain_behind" s_23 a_23 d_23)
  (f_3:Fd K "is_less" s_3 a_3 d_3)
  (f_22:Fd K "best_behind" s_22 a_22 d_22)
  (f_21:Fd K "bargain_way" s_21 a_21 d_21)
  (f_27:Fd K "borne_by_bargains" s_27 a_27 d_27)
  (f_26:Fd K "lessened" s_26 a_26 d_26)
  (f_42:Fd K "_law_asked" s_42 a_42 d_42)
  (f_37:Fd K "_law_frac" s_37 a_37 d_37)
  (f_43:Fd K "_law_steps" s_43 a_43 d_43)
  (f_31:Fd K "_law_whole" s_31 a_31 d_31)
  (f_38:Fd K "_law_is_frac" s_38 a_38 d_38)
  (f_33:Fd K "_law_things" s_33 a_33 d_33)
  (f_34:Fd K "_law_full" s_34 a_34 d_34)
  (f_36:Fd K "_law_has" s_36 a_36 d_36)
  (f_39:Fd K "_law_new" s_39 a_39 d_39)
  (f_40:Fd K "_law_best" s_40 a_40 d_40)
  (f_41:Fd K "_law_way" s_41 a_41 d_41)
  (f_44:Fd K "_law_due" s_44 a_44 d_44)
  (f_35:Fd K "_law_holed" s_35 a_35 d_35)
  (e_45:W.nsIn K mainGlobals "law"=some (some (.ref a_45))) (l_45:K.lookup a_45=some ⟨oc_45,od_45,.func (W.fnOf "law" "law" (zd4 s_45) (zcq s_45) (zae s_45) .none kV_45 dc_45 pm_45 an_45 cd_45 ct_45),sl_45⟩) (c_45:W.codeIn K cd_45 "law"=true) (k_45:W.keepIn K (.ref a_45)=true)
  (e_5:W.nsIn K mainGlobals "CoverError"=some (some (.ref a_5)))
  (e_6:W.nsIn K mainGlobals "NoStock"=some (some (.ref a_6)))
  (e_7:W.nsIn K mainGlobals "NoOffer"=some (some (.ref a_7)))
  (e_8:W.nsIn K mainGlobals "NoThing"=some (some (.ref a_8)))
  (e_9:W.nsIn K mainGlobals "NoCover"=some (some (.ref a_9)))
  (e_10:W.nsIn K mainGlobals "NoPaper"=some (some (.ref a_10)))
  (e_11:W.nsIn K mainGlobals "NoNumber"=some (some (.ref a_11)))
  (e_12:W.nsIn K mainGlobals "NotFull"=some (some (.ref a_12)))
  (e_13:W.nsIn K mainGlobals "NotInRow"=some (some (.ref a_13)))
  (e_14:W.nsIn K mainGlobals "NoText"=some (some (.ref a_14)))
  (e_15:W.nsIn K mainGlobals "NoRow"=some (some (.ref a_15)))
  (e_16:W.nsIn K mainGlobals "TooMany"=some (some (.ref a_16)))
  (z_ValueError:W.nsIn K mainGlobals "ValueError"=some none)
  (z_abs:W.nsIn K mainGlobals "abs"=some none)
  (z_all:W.nsIn K mainGlobals "all"=some none)
  (z_bool:W.nsIn K mainGlobals "bool"=some none)
  (z_enumerate:W.nsIn K mainGlobals "enumerate"=some none)
  (z_int:W.nsIn K mainGlobals "int"=some none)
  (z_isinstance:W.nsIn K mainGlobals "isinstance"=some none)
  (z_len:W.nsIn K mainGlobals "len"=some none)
  (z_max:W.nsIn K mainGlobals "max"=some none)
  (z_min:W.nsIn K mainGlobals "min"=some none)
  (z_range:W.nsIn K mainGlobals "range"=some none)
  (z_set:W.nsIn K mainGlobals "set"=some none)
  (z_sorted:W.nsIn K mainGlobals "sorted"=some none)
  (z_sum:W.nsIn K mainGlobals "sum"=some none)
  (z_tuple:W.nsIn K mainGlobals "tuple"=some none)
  (y_MOST_STEPS:W.nsIn K mainGlobals "MOST_STEPS"=some (some (.int 100 tk_MOST_STEPS)))
  (x_tab:zjz K a_5 [("NoStock",a_6),("NoOffer",a_7),("NoThing",a_8),("NoCover",a_9),("NoPaper",a_10),("NoNumber",a_11),("NotFull",a_12),("NotInRow",a_13),("NoText",a_14),("NoRow",a_15),("TooMany",a_16)]=true)
  : ∃ fd:FuncData,(∀ (s:Shared) (v:Value),BindsTo s fd ⟨[v],[]⟩ [("script",v)])/\ ∀ base:Heap,K.In base->base.Ns mainGlobals mg->zbw l.prog w K mg base CX0 9 fa fd ["script"] (zb6 K 1 F_45):=by
 have e:=hfa.symm.trans (W.mg_of X G e_45)
 cases e
 have F_45:=zaG (st:=s_45) l_45 c_45 k_45
 have b_45:=F_45.binds (ps:=["script"]) fun _ _ _ _ _ _ us hl=>match us,hl with | [_],_=>rfl
 have T:Tx K mg ⟨a_5,a_6,a_7,a_8,a_9,a_10,a_11,a_12,a_13,a_14,a_15,a_16,a_28,_,a_29,_,a_30,_,a_32,_,a_0,_,a_2,_,a_1,_,a_4,_,a_25,_,a_19,_,a_20,_,a_17,_,a_18,_,a_24,_,a_23,_,a_3,_,a_22,_,a_21,_,a_27,_,a_26,_,a_42,_,a_37,_,a_43,_,a_31,_,a_38,_,a_33,_,a_34,_,a_36,_,a_39,_,a_40,_,a_41,_,a_44,_,a_35,_,fa,_⟩:=
  {g_5:=W.mg_of X G e_5,
    g_6:=W.mg_of X G e_6,
    g_7:=W.mg_of X G e_7,
    g_8:=W.mg_of X G e_8,
    g_9:=W.mg_of X G e_9,
    g_10:=W.mg_of X G e_10,
    g_11:=W.mg_of X G e_11,
    g_12:=W.mg_of X G e_12,
    g_13:=W.mg_of X G e_13,
    g_14:=W.mg_of X G e_14,
    g_15:=W.mg_of X G e_15,
    g_16:=W.mg_of X G e_16,
    k_6:=e_6,
    k_7:=e_7,
    k_8:=e_8,
    k_9:=e_9,
    k_10:=e_10,
    k_11:=e_11,
    k_12:=e_12,
    k_13:=e_13,
    k_14:=e_14,
    k_15:=e_15,
    k_16:=e_16,
    x_exc:=zlz.of x_tab,
    n_ValueError:=W.mg_none_of X G z_ValueError,
    n_abs:=W.mg_none_of X G z_abs,
    n_all:=W.mg_none_of X G z_all,
    n_bool:=W.mg_none_of X G z_bool,
    n_enumerate:=W.mg_none_of X G z_enumerate,
    n_int:=W.mg_none_of X G z_int,
    n_isinstance:=W.mg_none_of X G z_isinstance,
    n_len:=W.mg_none_of X G z_len,
    n_max:=W.mg_none_of X G z_max,
    n_min:=W.mg_none_of X G z_min,
    n_range:=W.mg_none_of X G z_range,
    n_set:=W.mg_none_of X G z_set,
    n_sorted:=W.mg_none_of X G z_sorted,
    n_sum:=W.mg_none_of X G z_sum,
    n_tuple:=W.mg_none_of X G z_tuple,
    c_MOST_STEPS:=⟨tk_MOST_STEPS,W.mg_of X G y_MOST_STEPS⟩,
    m_28:=W.mg_of X G f_28.e,
    F_28:=f_28.F,
    b_28:=f_28.F.binds (ps:=["script","k"]) fun _ _ _ _ _ _ us hl=>match us,hl with | [_,_],_=>rfl,
    m_29:=W.mg_of X G f_29.e,
    F_29:=f_29.F,
    b_29:=f_29.F.binds (ps:=["script","k"]) fun _ _ _ _ _ _ us hl=>match us,hl with | [_,_],_=>rfl,
    m_30:=W.mg_of X G f_30.e,
    F_30:=f_30.F,
    b_30:=f_30.F.binds (ps:=["box","many"]) fun _ _ _ _ _ _ us hl=>match us,hl with | [_,_],_=>rfl,
    m_32:=W.mg_of X G f_32.e,
    F_32:=f_32.F,
    b_32:=f_32.F.binds (ps:=["e"]) fun _ _ _ _ _ _ us hl=>match us,hl with | [_],_=>rfl,
    m_0:=W.mg_of X G f_0.e,
    F_0:=f_0.F,
    b_0:=f_0.F.binds (ps:=["thing"]) fun _ _ _ _ _ _ us hl=>match us,hl with | [_],_=>rfl,
    m_2:=W.mg_of X G f_2.e,
    F_2:=f_2.F,
    b_2:=f_2.F.binds (ps:=["top","bottom"]) fun _ _ _ _ _ _ us hl=>match us,hl with | [_,_],_=>rfl,
    m_1:=W.mg_of X G f_1.e,
    F_1:=f_1.F,
    b_1:=f_1.F.binds (ps:=["top","bottom"]) fun _ _ _ _ _ _ us hl=>match us,hl with | [_,_],_=>rfl,
    m_4:=W.mg_of X G f_4.e,
    F_4:=f_4.F,
    b_4:=f_4.F.binds (ps:=["fractions"]) fun _ _ _ _ _ _ us hl=>match us,hl with | [_],_=>rfl,
    m_25:=W.mg_of X G f_25.e,
    F_25:=f_25.F,
    b_25:=f_25.F.binds (ps:=["many"]) fun _ _ _ _ _ _ us hl=>match us,hl with | [_],_=>rfl,
    m_19:=W.mg_of X G f_19.e,
    F_19:=f_19.F,
    b_19:=f_19.F.binds (ps:=["offers"]) fun _ _ _ _ _ _ us hl=>match us,hl with | [_],_=>rfl,
    m_20:=W.mg_of X G f_20.e,
    F_20:=f_20.F,
    b_20:=f_20.F.binds (ps:=["stock","offers"]) fun _ _ _ _ _ _ us hl=>match us,hl with | [_,_],_=>rfl,
    m_17:=W.mg_of X G f_17.e,
    F_17:=f_17.F,
    b_17:=f_17.F.binds (ps:=["stock"]) fun _ _ _ _ _ _ us hl=>match us,hl with | [_],_=>rfl,
    m_18:=W.mg_of X G f_18.e,
    F_18:=f_18.F,
    b_18:=f_18.F.binds (ps:=["stock"]) fun _ _ _ _ _ _ us hl=>match us,hl with | [_],_=>rfl,
    m_24:=W.mg_of X G f_24.e,
    F_24:=f_24.F,
    b_24:=f_24.F.binds (ps:=["offer","had"]) fun _ _ _ _ _ _ us hl=>match us,hl with | [_,_],_=>rfl,
    m_23:=W.mg_of X G f_23.e,
    F_23:=f_23.F,
    b_23:=f_23.F.binds (ps:=["offer","had"]) fun _ _ _ _ _ _ us hl=>match us,hl with | [_,_],_=>rfl,
    m_3:=W.mg_of X G f_3.e,
    F_3:=f_3.F,
    b_3:=f_3.F.binds (ps:=["fraction","other"]) fun _ _ _ _ _ _ us hl=>match us,hl with | [_,_],_=>rfl,
    m_22:=W.mg_of X G f_22.e,
    F_22:=f_22.F,
    b_22:=f_22.F.binds (ps:=["stock","had"]) fun _ _ _ _ _ _ us hl=>match us,hl with | [_,_],_=>rfl,
    m_21:=W.mg_of X G f_21.e,
    F_21:=f_21.F,
    b_21:=f_21.F.binds (ps:=["stock"]) fun _ _ _ _ _ _ us hl=>match us,hl with | [_],_=>rfl,
    m_27:=W.mg_of X G f_27.e,
    F_27:=f_27.F,
    b_27:=f_27.F.binds (ps:=["stock"]) fun _ _ _ _ _ _ us hl=>match us,hl with | [_],_=>rfl,
    m_26:=W.mg_of X G f_26.e,
    F_26:=f_26.F,
    b_26:=f_26.F.binds (ps:=["stock"]) fun _ _ _ _ _ _ us hl=>match us,hl with | [_],_=>rfl,
    m_42:=W.mg_of X G f_42.e,
    F_42:=f_42.F,
    b_42:=f_42.F.binds (ps:=["way","thing"]) fun _ _ _ _ _ _ us hl=>match us,hl with | [_,_],_=>rfl,
    m_37:=W.mg_of X G f_37.e,
    F_37:=f_37.F,
    b_37:=f_37.F.binds (ps:=["top","bottom"]) fun _ _ _ _ _ _ us hl=>match us,hl with | [_,_],_=>rfl,
    m_43:=W.mg_of X G f_43.e,
    F_43:=f_43.F,
    b_43:=f_43.F.binds (ps:=["many"]) fun _ _ _ _ _ _ us hl=>match us,hl with | [_],_=>rfl,
    m_31:=W.mg_of X G f_31.e,
    F_31:=f_31.F,
    b_31:=f_31.F.binds (ps:=["thing"]) fun _ _ _ _ _ _ us hl=>match us,hl with | [_],_=>rfl,
    m_38:=W.mg_of X G f_38.e,
    F_38:=f_38.F,
    b_38:=f_38.F.binds (ps:=["thing"]) fun _ _ _ _ _ _ us hl=>match us,hl with | [_],_=>rfl,
    m_33:=W.mg_of X G f_33.e,
    F_33:=f_33.F,
    b_33:=f_33.F.binds (ps:=["box","many"]) fun _ _ _ _ _ _ us hl=>match us,hl with | [_,_],_=>rfl,
    m_34:=W.mg_of X G f_34.e,
    F_34:=f_34.F,
    b_34:=f_34.F.binds (ps:=["box","most","lots"]) fun _ _ _ _ _ _ us hl=>match us,hl with | [_,_,_],_=>rfl,
    m_36:=W.mg_of X G f_36.e,
    F_36:=f_36.F,
    b_36:=f_36.F.binds (ps:=["stock","lot"]) fun _ _ _ _ _ _ us hl=>match us,hl with | [_,_],_=>rfl,
    m_39:=W.mg_of X G f_39.e,
    F_39:=f_39.F,
    b_39:=f_39.F.binds (ps:=["stock","offer","lot"]) fun _ _ _ _ _ _ us hl=>match us,hl with | [_,_,_],_=>rfl,
    m_40:=W.mg_of X G f_40.e,
    F_40:=f_40.F,
    b_40:=f_40.F.binds (ps:=["stock","lot"]) fun _ _ _ _ _ _ us hl=>match us,hl with | [_,_],_=>rfl,
    m_41:=W.mg_of X G f_41.e,
    F_41:=f_41.F,
    b_41:=f_41.F.binds (ps:=["stock"]) fun _ _ _ _ _ _ us hl=>match us,hl with | [_],_=>rfl,
    m_44:=W.mg_of X G f_44.e,
    F_44:=f_44.F,
    b_44:=f_44.F.binds (ps:=["stock"]) fun _ _ _ _ _ _ us hl=>match us,hl with | [_],_=>rfl,
    m_35:=W.mg_of X G f_35.e,
    F_35:=f_35.F,
    b_35:=f_35.F.binds (ps:=["box","stock"]) fun _ _ _ _ _ _ us hl=>match us,hl with | [_,_],_=>rfl,
    m_45:=W.mg_of X G e_45,
    F_45:=F_45,
    b_45:=b_45}
 exact ⟨W.fnOf "law" "law" (zd4 s_45) (zcq s_45) (zae s_45) .none kV_45 dc_45 pm_45 an_45 cd_45 ct_45,fun s v=> .of_eq rfl,fun base _ _=>ok_45 T⟩
theorem ztH {l:W.OpenLaw} {q:Program} {loose:List Str} {XP:(Str->Option Value)->Heap->Prop} {YP:World->Heap->Prop} {d:DefRec} {K:Params->W.Frag} (hn:l.most=some 63) (hdf:d.params.defaults=[])
  (hY: ∀ (w:World) (h:Heap),YP w h->(K w.params).In h)
  (F: ∀ (w:World) (mg:Str->Option Value) (fa:Addr) (h:Heap),(K w.params).In h->h.Ns mainGlobals mg->mg d.name=some (.ref fa)->
    ∃ fd:FuncData,(∀ (s:Shared) (u:Value),BindsTo s fd ⟨[u],[]⟩ [("script",u)])/\ ∀ base:Heap,(K w.params).In base->base.Ns mainGlobals mg->zbw l.prog w (K w.params) mg base CX0 9 fa fd ["script"] (zb6 (K w.params) 1 F_45))
  (hm: ∀ ns:List Int,ns.length<=63-> ∃ h',F_45 [.scr (ns.map D.int)] []= .ok (.bl true) h'):
  W.WalkO q loose XP YP l.row.toRowW d [] (fun f vs=>PySem.call f vs):=
 L2.znV (n:=63) (k:=9) (x:="script") (CX:=fun _=>CX0) (sp:=fun w=>zb6 (K w.params) 1 F_45) hn (by decide) hdf ⟨rfl,by decide,by decide⟩ hY F (fun w H a ns hl _ hS=>zsq hS (hm ns hl)) fun _ _ _ _ _ z=>z
end K23
open PySem PySem.W PyProof.Rows
set_option maxRecDepth 100000 in
set_option maxHeartbeats 0 in
theorem PySem.Challenge.cw_cheapcovers_k23_steps_together_and_what_holds : PySem.Challenge.rw_cheapcovers_k23_steps_together_and_what.Holds := by
 w_on; o_law; k_head; (case hw => w_witness2)
 k_fill
 refine K23.ztH (l := PySem.Challenge.rw_cheapcovers_k23_steps_together_and_what) rfl rfl (fun w h Y => W.kIn_of Y) ?F K23.zmG
 case F =>
  intro w mg fa h KX G hmg
  refine' K23.zqL KX G hmg (L3.Fd.mk ?e__law_cell (L2.zaG ?l__law_cell ?c__law_cell ?k__law_cell)) (L3.Fd.mk ?e__law_box (L2.zaG ?l__law_box ?c__law_box ?k__law_box)) (L3.Fd.mk ?e__law_take (L2.zaG ?l__law_take ?c__law_take ?k__law_take)) (L3.Fd.mk ?e__law_kind (L2.zaG ?l__law_kind ?c__law_kind ?k__law_kind)) (L3.Fd.mk ?e_is_whole (L2.zaG ?l_is_whole ?c_is_whole ?k_is_whole)) (L3.Fd.mk ?e_greatest_divisor (L2.zaG ?l_greatest_divisor ?c_greatest_divisor ?k_greatest_divisor)) (L3.Fd.mk ?e_reduced (L2.zaG ?l_reduced ?c_reduced ?k_reduced)) (L3.Fd.mk ?e_together (L2.zaG ?l_together ?c_together ?k_together)) (L3.Fd.mk ?e_steps_together (L2.zaG ?l_steps_together ?c_steps_together ?k_steps_together)) (L3.Fd.mk ?e_things_together (L2.zaG ?l_things_together ?c_things_together ?k_things_together)) (L3.Fd.mk ?e_have_all (L2.zaG ?l_have_all ?c_have_all ?k_have_all)) (L3.Fd.mk ?e_is_full (L2.zaG ?l_is_full ?c_is_full ?k_is_full)) (L3.Fd.mk ?e_need_full (L2.zaG ?l_need_full ?c_need_full ?k_need_full)) (L3.Fd.mk ?e_new_things (L2.zaG ?l_new_things ?c_new_things ?k_new_things)) (L3.Fd.mk ?e_bargain_behind (L2.zaG ?l_bargain_behind ?c_bargain_behind ?k_bargain_behind)) (L3.Fd.mk ?e_is_less (L2.zaG ?l_is_less ?c_is_less ?k_is_less)) (L3.Fd.mk ?e_best_behind (L2.zaG ?l_best_behind ?c_best_behind ?k_best_behind)) (L3.Fd.mk ?e_bargain_way (L2.zaG ?l_bargain_way ?c_bargain_way ?k_bargain_way)) (L3.Fd.mk ?e_borne_by_bargains (L2.zaG ?l_borne_by_bargains ?c_borne_by_bargains ?k_borne_by_bargains)) (L3.Fd.mk ?e_lessened (L2.zaG ?l_lessened ?c_lessened ?k_lessened)) (L3.Fd.mk ?e__law_asked (L2.zaG ?l__law_asked ?c__law_asked ?k__law_asked)) (L3.Fd.mk ?e__law_frac (L2.zaG ?l__law_frac ?c__law_frac ?k__law_frac)) (L3.Fd.mk ?e__law_steps (L2.zaG ?l__law_steps ?c__law_steps ?k__law_steps)) (L3.Fd.mk ?e__law_whole (L2.zaG ?l__law_whole ?c__law_whole ?k__law_whole)) (L3.Fd.mk ?e__law_is_frac (L2.zaG ?l__law_is_frac ?c__law_is_frac ?k__law_is_frac)) (L3.Fd.mk ?e__law_things (L2.zaG ?l__law_things ?c__law_things ?k__law_things)) (L3.Fd.mk ?e__law_full (L2.zaG ?l__law_full ?c__law_full ?k__law_full)) (L3.Fd.mk ?e__law_has (L2.zaG ?l__law_has ?c__law_has ?k__law_has)) (L3.Fd.mk ?e__law_new (L2.zaG ?l__law_new ?c__law_new ?k__law_new)) (L3.Fd.mk ?e__law_best (L2.zaG ?l__law_best ?c__law_best ?k__law_best)) (L3.Fd.mk ?e__law_way (L2.zaG ?l__law_way ?c__law_way ?k__law_way)) (L3.Fd.mk ?e__law_due (L2.zaG ?l__law_due ?c__law_due ?k__law_due)) (L3.Fd.mk ?e__law_holed (L2.zaG ?l__law_holed ?c__law_holed ?k__law_holed)) ?e_law ?l_law ?c_law ?k_law ?e_CoverError ?e_NoStock ?e_NoOffer ?e_NoThing ?e_NoCover ?e_NoPaper ?e_NoNumber ?e_NotFull ?e_NotInRow ?e_NoText ?e_NoRow ?e_TooMany ?z_ValueError ?z_abs ?z_all ?z_bool ?z_enumerate ?z_int ?z_isinstance ?z_len ?z_max ?z_min ?z_range ?z_set ?z_sorted ?z_sum ?z_tuple ?y_MOST_STEPS ?x_tab
  (case e__law_cell => k_is)
  (case l__law_cell => k_is)
  (case c__law_cell => k_is)
  (case k__law_cell => k_is)
  (case e__law_box => k_is)
  (case l__law_box => k_is)
  (case c__law_box => k_is)
  (case k__law_box => k_is)
  (case e__law_take => k_is)
  (case l__law_take => k_is)
  (case c__law_take => k_is)
  (case k__law_take => k_is)
  (case e__law_kind => k_is)
  (case l__law_kind => k_is)
  (case c__law_kind => k_is)
  (case k__law_kind => k_is)
  (case e_is_whole => k_is)
  (case l_is_whole => k_is)
  (case c_is_whole => k_is)
  (case k_is_whole => k_is)
  (case e_greatest_divisor => k_is)
  (case l_greatest_divisor => k_is)
  (case c_greatest_divisor => k_is)
  (case k_greatest_divisor => k_is)
  (case e_reduced => k_is)
  (case l_reduced => k_is)
  (case c_reduced => k_is)
  (case k_reduced => k_is)
  (case e_together => k_is)
  (case l_together => k_is)
  (case c_together => k_is)
  (case k_together => k_is)
  (case e_steps_together => k_is)
  (case l_steps_together => k_is)
  (case c_steps_together => k_is)
  (case k_steps_together => k_is)
  (case e_things_together => k_is)
  (case l_things_together => k_is)
  (case c_things_together => k_is)
  (case k_things_together => k_is)
  (case e_have_all => k_is)
  (case l_have_all => k_is)
  (case c_have_all => k_is)
  (case k_have_all => k_is)
  (case e_is_full => k_is)
  (case l_is_full => k_is)
  (case c_is_full => k_is)
  (case k_is_full => k_is)
  (case e_need_full => k_is)
  (case l_need_full => k_is)
  (case c_need_full => k_is)
  (case k_need_full => k_is)
  (case e_new_things => k_is)
  (case l_new_things => k_is)
  (case c_new_things => k_is)
  (case k_new_things => k_is)
  (case e_bargain_behind => k_is)
  (case l_bargain_behind => k_is)
  (case c_bargain_behind => k_is)
  (case k_bargain_behind => k_is)
  (case e_is_less => k_is)
  (case l_is_less => k_is)
  (case c_is_less => k_is)
  (case k_is_less => k_is)
  (case e_best_behind => k_is)
  (case l_best_behind => k_is)
  (case c_best_behind => k_is)
  (case k_best_behind => k_is)
  (case e_bargain_way => k_is)
  (case l_bargain_way => k_is)
  (case c_bargain_way => k_is)
  (case k_bargain_way => k_is)
  (case e_borne_by_bargains => k_is)
  (case l_borne_by_bargains => k_is)
  (case c_borne_by_bargains => k_is)
  (case k_borne_by_bargains => k_is)
  (case e_lessened => k_is)
  (case l_lessened => k_is)
  (case c_lessened => k_is)
  (case k_lessened => k_is)
  (case e__law_asked => k_is)
  (case l__law_asked => k_is)
  (case c__law_asked => k_is)
  (case k__law_asked => k_is)
  (case e__law_frac => k_is)
  (case l__law_frac => k_is)
  (case c__law_frac => k_is)
  (case k__law_frac => k_is)
  (case e__law_steps => k_is)
  (case l__law_steps => k_is)
  (case c__law_steps => k_is)
  (case k__law_steps => k_is)
  (case e__law_whole => k_is)
  (case l__law_whole => k_is)
  (case c__law_whole => k_is)
  (case k__law_whole => k_is)
  (case e__law_is_frac => k_is)
  (case l__law_is_frac => k_is)
  (case c__law_is_frac => k_is)
  (case k__law_is_frac => k_is)
  (case e__law_things => k_is)
  (case l__law_things => k_is)
  (case c__law_things => k_is)
  (case k__law_things => k_is)
  (case e__law_full => k_is)
  (case l__law_full => k_is)
  (case c__law_full => k_is)
  (case k__law_full => k_is)
  (case e__law_has => k_is)
  (case l__law_has => k_is)
  (case c__law_has => k_is)
  (case k__law_has => k_is)
  (case e__law_new => k_is)
  (case l__law_new => k_is)
  (case c__law_new => k_is)
  (case k__law_new => k_is)
  (case e__law_best => k_is)
  (case l__law_best => k_is)
  (case c__law_best => k_is)
  (case k__law_best => k_is)
  (case e__law_way => k_is)
  (case l__law_way => k_is)
  (case c__law_way => k_is)
  (case k__law_way => k_is)
  (case e__law_due => k_is)
  (case l__law_due => k_is)
  (case c__law_due => k_is)
  (case k__law_due => k_is)
  (case e__law_holed => k_is)
  (case l__law_holed => k_is)
  (case c__law_holed => k_is)
  (case k__law_holed => k_is)
  (case e_law => k_is)
  (case l_law => k_is)
  (case c_law => k_is)
  (case k_law => k_is)
  (case e_CoverError => k_is)
  (case e_NoStock => k_is)
  (case e_NoOffer => k_is)
  (case e_NoThing => k_is)
  (case e_NoCover => k_is)
  (case e_NoPaper => k_is)
  (case e_NoNumber => k_is)
  (case e_NotFull => k_is)
  (case e_NotInRow => k_is)
  (case e_NoText => k_is)
  (case e_NoRow => k_is)
  (case e_TooMany => k_is)
  (case z_ValueError => k_is)
  (case z_abs => k_is)
  (case z_all => k_is)
  (case z_bool => k_is)
  (case z_enumerate => k_is)
  (case z_int => k_is)
  (case z_isinstance => k_is)
  (case z_len => k_is)
  (case z_max => k_is)
  (case z_min => k_is)
  (case z_range => k_is)
  (case z_set => k_is)
  (case z_sorted => k_is)
  (case z_sum => k_is)
  (case z_tuple => k_is)
  (case y_MOST_STEPS => k_is)
  (case x_tab => kernel_rfl)
